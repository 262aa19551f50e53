"""The values of the gatherings of a group over both times."""

from pastamended.gatherings import gathered_values
from pastamended.regions import at_known, joined
from pastamended.spans import spans_of


def regions_by_values(gatherings, members):
    """A dict from the values of the gatherings to the region at whose points the group has these values.

    A member of a group is the row of a choice's values of the gathered expressions and the region of the choice.
    """
    strips = {}
    bounds = sorted({n for _, region in members for j, k, _ in region for n in (j, k)})
    for j, k in zip(bounds, bounds[1:]):
        found = _pairs_by_values(gatherings, [(inputs, at_known(region, j)) for inputs, region in members])
        for values in found:
            strips.setdefault(values, []).append((j, k, spans_of(found[values])))
    return {values: joined(strips[values]) for values in strips}


def _pairs_by_values(gatherings, members):
    """A dict from the values of the gatherings to the moments that have them, as pairs (a, b)."""
    turns = sorted([(m, at) for at, (_, spans) in enumerate(members) for span in spans for m in span])
    here = {}
    found = {}
    for (m, at), (end, _) in zip(turns, turns[1:]):
        # A choice comes at the one bound of a span and goes at the other one.
        if at in here:
            del here[at]
        else:
            here[at] = members[at][0]
        if here and m < end:
            found.setdefault(gathered_values(gatherings, list(here.values())), []).append((m, end))
    return found
