"""Sets of integers as ascending lists of spans that neither touch nor overlap."""

# Whether an integer is wanted that is in: neither set, the first alone, the second alone, both.
IN_EITHER = (False, True, True, True)
IN_BOTH = (False, False, False, True)
IN_FIRST_ALONE = (False, True, False, False)


def spans_of(pairs):
    """The spans of all integers that at least one of the pairs holds."""
    found = []
    for a, b in sorted(pairs):
        if b <= a:
            continue
        if found and a <= found[-1][1]:
            found[-1] = (found[-1][0], max(b, found[-1][1]))
        else:
            found.append((a, b))
    return found


def spans_unite(first, second):
    """The spans of the integers in at least one of the two."""
    return _combined(first, second, IN_EITHER)


def spans_meet(first, second):
    """The spans of the integers in both."""
    return _combined(first, second, IN_BOTH)


def spans_minus(first, second):
    """The spans of the integers in the first, but not in the second."""
    return _combined(first, second, IN_FIRST_ALONE)


def spans_hold(spans, n):
    """Whether the integer is in the spans."""
    at = index_behind(spans, n)
    return at < len(spans) and spans[at][0] <= n


def spans_count(spans):
    """How many integers the spans hold."""
    return sum([b - a for a, b in spans])


def index_behind(parts, n):
    """The index of the first part that ends behind n; each part has its end at 1, in ascending order."""
    low = 0
    high = len(parts)
    while low < high:
        middle = (low + high) // 2
        if parts[middle][1] <= n:
            low = middle + 1
        else:
            high = middle
    return low


def _combined(first, second, wanted):
    """The spans of the integers that are wanted, by the sets that hold them."""
    # Most sets that meet are equal, or one of them is empty: then nothing needs to be sorted.
    if first == second:
        return list(first) if wanted[3] else []
    if not second:
        return list(first) if wanted[1] else []
    if not first:
        return list(second) if wanted[2] else []
    flips = sorted([(n, 1) for span in first for n in span] + [(n, 2) for span in second for n in span])
    bounds = []
    holders = 0
    for n, holder in flips:
        before = wanted[holders]
        holders = holders ^ holder
        if wanted[holders] == before:
            continue
        # Both sets may have a bound at n: what the first one begins or ends there, the second one takes back.
        if bounds and bounds[-1] == n:
            bounds.pop()
        else:
            bounds.append(n)
    return [(bounds[at], bounds[at + 1]) for at in range(0, len(bounds), 2)]
