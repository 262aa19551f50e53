"""Answers over the rows of one moment."""

from pastamended.operations import operate
from pastamended.values import kind_of, wrap


def value_of(e, levels, tables):
    """The value of an expression without gatherings, or True or False for a condition."""
    word = e[0]
    if word in ("number", "text", "truth"):
        return e[1]
    if word == "cell":
        _, up, source, column = e
        return levels[len(levels) - 1 - up][source][column]
    if word == "exists":
        return plain_answer(e[1], tables, levels) != []
    first = value_of(e[1], levels, tables)
    if word == "neg":
        return wrap(-first)
    if word == "not":
        return not first
    if word == "and":
        return first and value_of(e[2], levels, tables)
    if word == "or":
        return first or value_of(e[2], levels, tables)
    return operate(word, first, value_of(e[2], levels, tables))


def plain_answer(question, tables, levels=()):
    """The plain answer of a question for the given levels."""
    if question[0] == "select":
        return sorted(set(_select_rows(question, tables, list(levels))))
    left = plain_answer(question[1], tables, levels)
    right = plain_answer(question[2], tables, levels)
    if question[0] == "union":
        return sorted(set(left) | set(right))
    if question[0] == "except":
        return sorted(set(left) - set(right))
    return sorted(set(left) & set(right))


def _select_rows(select, tables, levels):
    """The rows of a select, in any order and as often as they come about."""
    _, items, names, where, group, having = select
    choices = [
        choice for choice in _all_choices(names, tables)
        if where is None or value_of(where, levels + [choice], tables)
    ]
    if group is None:
        return [_row(items, levels + [choice], tables) for choice in choices]
    rows = []
    for members in _groups(choices, group, levels, tables):
        inner = levels + [members[0]]
        if having is None or value_of(_with_gatherings(having, members, levels, tables), inner, tables):
            rows.append(_row([_with_gatherings(e, members, levels, tables) for e in items], inner, tables))
    return rows


def _all_choices(names, tables):
    """All lists of one row of each of the tables."""
    choices = [[]]
    for name in names:
        choices = [choice + [row] for choice in choices for row in tables[name]]
    return choices


def _row(items, levels, tables):
    return tuple([value_of(e, levels, tables) for e in items])


def _groups(choices, group, levels, tables):
    """The lists of the choices that have equal values of the group's cells."""
    groups = {}
    for choice in choices:
        groups.setdefault(_row(group, levels + [choice], tables), []).append(choice)
    return list(groups.values())


def _with_gatherings(e, members, levels, tables):
    """The expression with the values of the gatherings over a group's choices in their place."""
    word = e[0]
    if word == "count":
        return ("number", len(members))
    if word in ("sum", "least", "greatest"):
        value = _gathered(word, [value_of(e[1], levels + [choice], tables) for choice in members])
        return (kind_of(value), value)
    # Only operators have expressions within them here: no exists stands beside gatherings.
    if word in ("number", "text", "truth", "cell", "exists"):
        return e
    parts = [word]
    for part in e[1:]:
        parts.append(_with_gatherings(part, members, levels, tables))
    return tuple(parts)


def _gathered(word, values):
    if word == "sum":
        return wrap(sum(values))
    return min(values) if word == "least" else max(values)
