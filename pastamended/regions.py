"""Sets of points as ascending lists of strips, each with the spans of its moments."""

from pastamended.errors import WrongRegion
from pastamended.spans import index_behind, spans_count, spans_hold, spans_meet, spans_minus, spans_of, spans_unite


def region_of(rectangles):
    """The region of all points that at least one of the rectangles holds."""
    return unite_all([[(j, k, [(a, b)])] for a, b, j, k in rectangles if a < b and j < k])


def unite(first, second):
    """The region of the points in at least one of the two."""
    return _combined(first, second, spans_unite)


def unite_all(regions):
    """The union of a list of regions, by halves: so no long region is gone through for each short one."""
    if not regions:
        return []
    if len(regions) == 1:
        return regions[0]
    middle = len(regions) // 2
    return unite(unite_all(regions[:middle]), unite_all(regions[middle:]))


def meet(first, second):
    """The region of the points in both."""
    return _combined(first, second, spans_meet)


def minus(first, second):
    """The region of the points in the first, but not in the second."""
    return _combined(first, second, spans_minus)


def holds(region, m, k):
    """Whether the region holds the point of the moment m and the known number k."""
    return spans_hold(_spans_at(region, k), m)


def at_known(region, k):
    """The spans of the moments that the region holds at a known number."""
    return list(_spans_at(region, k))


def at_moment(region, m):
    """The spans of the known numbers at which the region holds a moment."""
    return spans_of([(j, k) for j, k, spans in region if spans_hold(spans, m)])


def size(region):
    """How many points the region holds."""
    return sum([(k - j) * spans_count(spans) for j, k, spans in region])


def rectangles_of(region):
    """The rectangles of the region, strip by strip."""
    return [(a, b, j, k) for j, k, spans in region for a, b in spans]


def check_region(value):
    """Raises WrongRegion if the value is not a region."""
    end = 0
    last_spans = []
    for j, k, spans in value:
        if j < end or k <= j:
            raise WrongRegion()
        if not spans or spans_of(spans) != spans or spans[0][0] < 0:
            raise WrongRegion()
        if j == end and spans == last_spans:
            raise WrongRegion()
        end = k
        last_spans = spans


def joined(strips):
    """The region of ascending strips, of which some may be empty and neighbours may have equal spans."""
    region = []
    for j, k, spans in strips:
        if not spans:
            continue
        if region and region[-1][1] == j and region[-1][2] == spans:
            region[-1] = (region[-1][0], k, spans)
        else:
            region.append((j, k, spans))
    return region


def _spans_at(region, k):
    """Like at_known, but the very list of the region."""
    at = index_behind(region, k)
    if at < len(region) and region[at][0] <= k:
        return region[at][2]
    return []


def _combined(first, second, combine):
    """The region that has at each known number what combine makes of the spans of the two."""
    bounds = sorted({n for j, k, _ in first + second for n in (j, k)})
    return joined([
        (j, k, combine(_spans_at(first, j), _spans_at(second, j))) for j, k in zip(bounds, bounds[1:])
    ])
