"""The answers of ready questions, worked out step by step, and the truth of ready conditions."""

from pastamended.gatherings import gathered_expressions, gatherings_of
from pastamended.plain_answers import group_rows, value_of, values_of
from pastamended.regions import meet, minus, unite, unite_all
from pastamended.relations import meet_relations, minus_relations, relation_of, unite_relations
from pastamended.sweeps import regions_by_values


def truth_of(condition, levels, region):
    """The region of those points of a region at which a ready condition is true for the levels."""
    word = condition[0]
    if not region:
        return []
    if word == "and":
        return truth_of(condition[2], levels, truth_of(condition[1], levels, region))
    if word == "or":
        first = truth_of(condition[1], levels, region)
        return unite(first, truth_of(condition[2], levels, minus(region, first)))
    if word == "not":
        return minus(region, truth_of(condition[1], levels, region))
    if word == "exists":
        return _region_with_rows(condition[1], region, levels)
    # What is left has no exists within it: it is the same at all points.
    return region if value_of(condition, levels, {}) else []


def answer_of(question, region, levels):
    """The answer of a ready question within a region for the given levels."""
    if question[0] == "select":
        return relation_of(_select_pairs(question, region, levels))
    left = answer_of(question[1], region, levels)
    right = answer_of(question[2], region, levels)
    if question[0] == "union":
        return unite_relations(left, right)
    if question[0] == "except":
        return minus_relations(left, right)
    return meet_relations(left, right)


def _region_with_rows(question, region, levels):
    """The region of those points of a region at which the answer of a question has a row."""
    if question[0] == "union":
        left = _region_with_rows(question[1], region, levels)
        return unite(left, _region_with_rows(question[2], minus(region, left), levels))
    if question[0] != "select" or question[1][5] is not None:
        return unite_all([own for _, own in answer_of(question, region, levels)])
    choice, here = _start(question, region, levels)
    return _region_with_choices(choice, here, question[3], levels)


def _region_with_choices(choice, region, steps, levels):
    """The region of those points of a region at which these steps find the rest of a choice."""
    if not steps or not region:
        return region
    rest = region
    for row, own in _rows_of_step(steps[0], levels + [choice]):
        longer, here = _with_row(choice, rest, row, own, steps[0], levels)
        if here:
            rest = minus(rest, _region_with_choices(longer, here, steps[1:], levels))
        if not rest:
            break
    return minus(region, rest)


def _select_pairs(question, region, levels):
    """The rows of a select with regions, in any order and as often as they come about."""
    _, select, _, _ = question
    _, items, _, _, group, _ = select
    found = _choices(question, region, levels)
    if group is None:
        return [(values_of(items, levels + [choice], {}), own) for choice, own in found]
    groups = {}
    for choice, own in found:
        groups.setdefault(values_of(group, levels + [choice], {}), []).append((choice, own))
    gatherings = gatherings_of(select)
    gathered = gathered_expressions(gatherings)
    pairs = []
    for pairs_of_group in groups.values():
        inner = levels + [pairs_of_group[0][0]]
        members = [(values_of(gathered, levels + [choice], {}), own) for choice, own in pairs_of_group]
        for values, own in regions_by_values(gatherings, members).items():
            for row in group_rows(select, gatherings, values, inner, {}):
                pairs.append((row, own))
    return pairs


def _choices(question, region, levels):
    """The choices of a select with the regions of those points at which they are there and where is true."""
    found = [_start(question, region, levels)]
    for step in question[3]:
        found = _longer(found, step, levels)
    return found


def _longer(found, step, levels):
    """The choices with one more row, of those that have any point."""
    pairs = []
    for choice, here in found:
        for row, own in _rows_of_step(step, levels + [choice]):
            pair = _with_row(choice, here, row, own, step, levels)
            if pair[1]:
                pairs.append(pair)
    return pairs


def _start(question, region, levels):
    """The choice without rows, and the region at which the parts that name no source are true."""
    _, select, ahead, _ = question
    choice = [None] * len(select[2])
    return (choice, _where_true(ahead, levels + [choice], region, region))


def _rows_of_step(step, levels):
    """The rows that a step may take for a choice, which is the last level, with their regions."""
    _, relation, index, expressions, _ = step
    return relation if index is None else index.rows_for(list(values_of(expressions, levels, {})))


def _with_row(choice, region, row, own, step, levels):
    """The choice with one more row, and the region at which it is there and the parts of the step are true."""
    source = step[0]
    longer = choice[:source] + [row] + choice[source + 1:]
    return (longer, _where_true(step[4], levels + [longer], region, own))


def _where_true(asked, levels, region, own):
    """The region of those points of both regions at which the parts are true for the levels."""
    plain, others = asked
    # Most choices fail here, which takes less time than to meet the regions first.
    for part in plain:
        if not value_of(part, levels, {}):
            return []
    here = meet(region, own)
    for part in others:
        here = truth_of(part, levels, here)
    return here
