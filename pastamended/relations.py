"""Rows with the regions at which they stand."""

from pastamended.regions import holds, meet, minus, unite_all


def relation_of(pairs):
    """The relation of pairs of a row and a region, in any order; the regions of equal rows are united."""
    regions = {}
    for row, region in pairs:
        regions.setdefault(row, []).append(region)
    return _without_empty([(row, unite_all(regions[row])) for row in sorted(regions)])


def cut(relation, m, k):
    """The rows that stand at the point of the moment m and the known number k."""
    return [row for row, region in relation if holds(region, m, k)]


def within(relation, region):
    """The relation within a region alone."""
    return _without_empty([(row, meet(own, region)) for row, own in relation])


def unite_relations(first, second):
    """The relation of the rows that stand in at least one of the two."""
    return relation_of(first + second)


def meet_relations(first, second):
    """The relation of the rows that stand in both."""
    return _combined(first, second, meet)


def minus_relations(first, second):
    """The relation of the rows that stand in the first, but not in the second."""
    return _combined(first, second, minus)


def _combined(first, second, combine):
    """The rows of the first with what combine makes of their regions in both."""
    others = {row: region for row, region in second}
    return _without_empty([(row, combine(region, others.get(row, []))) for row, region in first])


def _without_empty(pairs):
    return [(row, region) for row, region in pairs if region]
