"""The orders in which selects take their sources, and their plans."""

from math import factorial

from pastamended.parts import parts, sources_of


def order_number(n, count):
    """The order of the indexes below count at position n modulo the number of all orders."""
    place = n % factorial(count)
    left = list(range(count))
    order = []
    while left:
        # Each index that may stand next begins as many orders as there are of the others.
        size = factorial(len(left) - 1)
        order.append(left.pop(place // size))
        place = place % size
    return order


def make_plan(select, order):
    """The steps (source, probes, filters) of a select that takes its sources in this order."""
    steps = []
    taken = []
    left = parts(select[3])
    for source in order:
        probes = []
        filters = []
        later = []
        for part in left:
            probe = _probe(part, source, taken)
            if probe is not None and probe[0] not in [column for column, _ in probes]:
                probes.append(probe)
            elif _names_only(part, taken + [source]):
                filters.append(part)
            else:
                later.append(part)
        steps.append((source, probes, filters))
        taken.append(source)
        left = later
    return steps


def choose_order(select, sizes):
    """The chosen order of a select over tables with these numbers of rows."""
    tables = select[2]
    conditions = parts(select[3])
    left = list(range(len(tables)))
    taken = []
    while left:
        found = [source for source in left if _has_probe(conditions, source, taken)]
        chosen = min([(sizes[tables[source]], source) for source in found or left])[1]
        taken.append(chosen)
        left.remove(chosen)
    return taken


def _has_probe(conditions, source, taken):
    """Whether one of the parts is a probe for a source behind those that are taken."""
    return any([_probe(part, source, taken) is not None for part in conditions])


def _probe(part, source, taken):
    """The probe (column, e) that a part is for a source behind those that are taken, or None."""
    if part[0] != "eq":
        return None
    for own, other in ((part[1], part[2]), (part[2], part[1])):
        if own[:3] == ("cell", 0, source) and _names_only(other, taken):
            return (own[3], other)
    return None


def _names_only(e, sources):
    """Whether an expression names none but these sources."""
    return all([source in sources for source in sources_of(e)])
