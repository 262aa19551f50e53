"""Answers over the rows of one moment."""

from pastamended.gatherings import gathered_expressions, gathered_values, gatherings_of, with_values
from pastamended.operations import operate
from pastamended.parts import parts_by_taken
from pastamended.values import wrap


def value_of(e, levels, tables):
    """The value of an expression without gatherings, or True or False for a condition."""
    word = e[0]
    if word in ("number", "text", "truth"):
        return e[1]
    if word == "cell":
        _, up, source, column = e
        return levels[len(levels) - 1 - up][source][column]
    if word == "exists":
        return _has_rows(e[1], tables, list(levels))
    first = value_of(e[1], levels, tables)
    if word == "neg":
        return wrap(-first)
    if word == "not":
        return not first
    if word == "and":
        return first and value_of(e[2], levels, tables)
    if word == "or":
        return first or value_of(e[2], levels, tables)
    return operate(word, first, value_of(e[2], levels, tables))


def plain_answer(question, tables, levels=()):
    """The plain answer of a question for the given levels."""
    if question[0] == "select":
        return sorted(set(_select_rows(question, tables, list(levels))))
    left = plain_answer(question[1], tables, levels)
    right = plain_answer(question[2], tables, levels)
    if question[0] == "union":
        return sorted(set(left) | set(right))
    if question[0] == "except":
        return sorted(set(left) - set(right))
    return sorted(set(left) & set(right))


def values_of(expressions, levels, tables):
    """The tuple of the values of some expressions."""
    return tuple([value_of(e, levels, tables) for e in expressions])


def group_rows(select, gatherings, values, levels, tables):
    """The row of a group whose gatherings have these values, in a list; no row if having is false for it.

    The last level is any choice of the group.
    """
    _, items, _, _, _, having = select
    if having is not None and not value_of(with_values(having, gatherings, values), levels, tables):
        return []
    return [values_of([with_values(e, gatherings, values) for e in items], levels, tables)]


def _has_rows(question, tables, levels):
    """Whether the answer of a question has a row; where one choice is enough, no other one is looked for."""
    if question[0] == "union":
        return _has_rows(question[1], tables, levels) or _has_rows(question[2], tables, levels)
    if question[0] != "select" or question[5] is not None:
        return plain_answer(question, tables, levels) != []
    return _choices(question, tables, levels, True) != []


def _select_rows(select, tables, levels):
    """The rows of a select, in any order and as often as they come about."""
    _, items, _, _, group, _ = select
    choices = _choices(select, tables, levels, False)
    if group is None:
        return [values_of(items, levels + [choice], tables) for choice in choices]
    groups = {}
    for choice in choices:
        groups.setdefault(values_of(group, levels + [choice], tables), []).append(choice)
    gatherings = gatherings_of(select)
    gathered = gathered_expressions(gatherings)
    rows = []
    for members in groups.values():
        inputs = [values_of(gathered, levels + [choice], tables) for choice in members]
        values = gathered_values(gatherings, inputs)
        rows.extend(group_rows(select, gatherings, values, levels + [members[0]], tables))
    return rows


def _choices(select, tables, levels, one):
    """The choices for which where is true; if one is enough, not more than one."""
    _, _, names, where, _, _ = select
    return _choices_from([], names, parts_by_taken(where, len(names)), tables, levels, one)


def _choices_from(choice, names, asked, tables, levels, one):
    """The choices that begin with the rows of this one; each part is asked as soon as its sources are taken."""
    taken = len(choice)
    for part in asked[taken]:
        if not value_of(part, levels + [choice], tables):
            return []
    if taken == len(names):
        return [choice]
    found = []
    for row in tables[names[taken]]:
        found.extend(_choices_from(choice + [row], names, asked, tables, levels, one))
        if one and found:
            break
    return found
