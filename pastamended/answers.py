"""Answers over both times."""

from pastamended.gatherings import gathered_expressions, gathered_values, gatherings_of
from pastamended.parts import has_exists, parts_by_taken
from pastamended.plain_answers import group_rows, value_of, values_of
from pastamended.regions import at_known, meet, minus, region_of, unite, unite_all
from pastamended.relations import meet_relations, minus_relations, relation_of, unite_relations


def truth(condition, levels, region, tables):
    """The region of those points of a region at which a condition without gatherings is true for the levels."""
    word = condition[0]
    if not region:
        return []
    if word == "and":
        return truth(condition[2], levels, truth(condition[1], levels, region, tables), tables)
    if word == "or":
        first = truth(condition[1], levels, region, tables)
        return unite(first, truth(condition[2], levels, minus(region, first), tables))
    if word == "not":
        return minus(region, truth(condition[1], levels, region, tables))
    if word == "exists":
        return _region_with_rows(condition[1], tables, region, list(levels))
    # What is left has no exists within it: it is the same at all points.
    return region if value_of(condition, levels, {}) else []


def answer(question, tables, region, levels=()):
    """The answer of a question within a region for the given levels."""
    if question[0] == "select":
        return relation_of(_select_pairs(question, tables, region, list(levels)))
    left = answer(question[1], tables, region, levels)
    right = answer(question[2], tables, region, levels)
    if question[0] == "union":
        return unite_relations(left, right)
    if question[0] == "except":
        return minus_relations(left, right)
    return meet_relations(left, right)


def rectangles_by_values(gatherings, members):
    """A dict from the values of the gatherings to rectangles: at their points a group's gatherings have these values.

    A member of a group is the row of a choice's values of the gathered expressions and the region of the choice.
    """
    found = {}
    bounds = sorted({n for _, region in members for j, k, _ in region for n in (j, k)})
    for j, k in zip(bounds, bounds[1:]):
        turns = sorted([
            (m, at) for at, (_, region) in enumerate(members) for span in at_known(region, j) for m in span
        ])
        here = {}
        for (m, at), (end, _) in zip(turns, turns[1:]):
            # A choice comes at the one bound of a span and goes at the other one.
            if at in here:
                del here[at]
            else:
                here[at] = members[at][0]
            if here and m < end:
                values = gathered_values(gatherings, list(here.values()))
                found.setdefault(values, []).append((m, end, j, k))
    return found


def _region_with_rows(question, tables, region, levels):
    """The region of those points of a region at which the answer of a question has a row."""
    if question[0] == "union":
        left = _region_with_rows(question[1], tables, region, levels)
        return unite(left, _region_with_rows(question[2], tables, minus(region, left), levels))
    if question[0] != "select" or question[5] is not None:
        return unite_all([own for _, own in answer(question, tables, region, levels)])
    _, _, names, where, _, _ = question
    asked = _asked(where, len(names))
    start = _region_of_choice([], region, region, asked[0], tables, levels)
    return _region_with_choices([], start, names, asked, tables, levels)


def _region_with_choices(choice, region, names, asked, tables, levels):
    """The region of those points of a region at which there is a choice that begins with the rows of this one."""
    taken = len(choice)
    if taken == len(names):
        return region
    rest = region
    for row, own in tables[names[taken]]:
        longer = choice + [row]
        here = _region_of_choice(longer, rest, own, asked[taken + 1], tables, levels)
        if here:
            rest = minus(rest, _region_with_choices(longer, here, names, asked, tables, levels))
        if not rest:
            break
    return minus(region, rest)


def _select_pairs(select, tables, region, levels):
    """The rows of a select with regions, in any order and as often as they come about."""
    _, items, _, _, group, _ = select
    found = _choices(select, tables, region, levels)
    if group is None:
        return [(values_of(items, levels + [choice], {}), own) for choice, own in found]
    groups = {}
    for choice, own in found:
        groups.setdefault(values_of(group, levels + [choice], {}), []).append((choice, own))
    gatherings = gatherings_of(select)
    gathered = gathered_expressions(gatherings)
    pairs = []
    for pairs_of_group in groups.values():
        inner = levels + [pairs_of_group[0][0]]
        members = [(values_of(gathered, levels + [choice], {}), own) for choice, own in pairs_of_group]
        for values, rectangles in rectangles_by_values(gatherings, members).items():
            for row in group_rows(select, gatherings, values, inner, {}):
                pairs.append((row, region_of(rectangles)))
    return pairs


def _choices(select, tables, region, levels):
    """The choices of a select with the regions of those points at which they are there and where is true."""
    _, _, names, where, _, _ = select
    asked = _asked(where, len(names))
    found = [([], _region_of_choice([], region, region, asked[0], tables, levels))]
    for name, parts in zip(names, asked[1:]):
        found = [
            (choice + [row], _region_of_choice(choice + [row], own, other, parts, tables, levels))
            for choice, own in found for row, other in tables[name]
        ]
        found = [pair for pair in found if pair[1]]
    return found


def _asked(where, count):
    """For each number of taken sources the parts that are asked then: those without exists and those with one."""
    return [
        ([part for part in parts if not has_exists(part)], [part for part in parts if has_exists(part)])
        for parts in parts_by_taken(where, count)
    ]


def _region_of_choice(choice, region, own, asked, tables, levels):
    """The region of those points of the two regions at which the parts that are asked of the choice are true."""
    plain, others = asked
    inner = levels + [choice]
    # Most choices fail here, which takes less time than to meet the regions first.
    for part in plain:
        if not value_of(part, inner, {}):
            return []
    here = meet(region, own)
    for part in others:
        here = truth(part, inner, here, tables)
    return here
