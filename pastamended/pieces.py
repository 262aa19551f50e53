"""A window divided into rectangles within which no region changes."""

from pastamended.regions import at_known, meet
from pastamended.spans import spans_hold, spans_minus, spans_of


def pieces(regions, window):
    """The pieces of the regions within the window."""
    low, high, _, end = window
    changes = _changes_of(regions, window)
    counts = {low: 1, high: 1}
    begun = {}
    found = []
    for known in sorted(changes):
        counts = _counted(counts, changes[known])
        bounds = sorted(counts)
        changed = _changed_moments(changes[known])
        # A piece goes on where its moments stay together and no region changes at them.
        now = {}
        for column in zip(bounds, bounds[1:]):
            goes_on = column in begun and not spans_hold(changed, column[0])
            now[column] = begun[column] if goes_on else known
        found.extend(_ended(begun, now, known))
        begun = now
    found.extend(_ended(begun, {}, end))
    return sorted(found, key=lambda piece: (piece[2], piece[0]))


def _changes_of(regions, window):
    """For each known number at which a piece may begin, the pairs of a region's spans before it and from it on."""
    low, high, start, end = window
    changes = {start: []}
    for region in regions:
        inner = meet(region, [(start, end, [(low, high)])])
        before = []
        for known in sorted({n for j, k, _ in inner for n in (j, k) if n < end}):
            after = at_known(inner, known)
            changes.setdefault(known, []).append((before, after))
            before = after
    return changes


def _counted(counts, pairs):
    """For each bound of the spans from now on, how often it stands there, if it did so as counted before."""
    new = dict(counts)
    for before, after in pairs:
        for bound in [n for span in after for n in span]:
            new[bound] = new.get(bound, 0) + 1
        for bound in [n for span in before for n in span]:
            new[bound] = new[bound] - 1
    return {bound: new[bound] for bound in new if new[bound] > 0}


def _changed_moments(pairs):
    """The spans of the moments that a pair has before or after, but not both."""
    return spans_of([
        span for before, after in pairs for span in spans_minus(before, after) + spans_minus(after, before)
    ])


def _ended(begun, now, known):
    """The pieces that have begun and do not go on at the known number."""
    return [(a, b, begun[(a, b)], known) for a, b in begun if now.get((a, b)) != begun[(a, b)]]
