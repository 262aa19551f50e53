"""What several tests share: sets kept one by one, and random spans, regions and rectangles."""

import copy

FAR = 10 ** 35


def integers_of(spans):
    """The set of the integers of some spans, or of any pairs."""
    return {n for a, b in spans for n in range(a, b)}


def points_of(rectangles):
    """The set of the points of some rectangles."""
    return {(m, n) for a, b, j, k in rectangles for m in range(a, b) for n in range(j, k)}


def region_points(region):
    """The set of the points of a region, read strip by strip."""
    return {(m, n) for j, k, spans in region for n in range(j, k) for m in integers_of(spans)}


def random_pairs(random, count, most=12):
    return [(random.randrange(most), random.randrange(most)) for _ in range(count)]


def random_rectangles(random, count, most=8):
    return [random_pair(random, most) + random_pair(random, most) for _ in range(count)]


def random_pair(random, most):
    return (random.randrange(most), random.randrange(most))


class Unchanged:
    """Calls a function and fails if the call modified one of its arguments."""

    def __init__(self, case):
        self.case = case

    def __call__(self, function, *arguments):
        before = copy.deepcopy(arguments)
        result = function(*arguments)
        self.case.assertEqual(before, arguments, f"{function.__name__} modified an argument")
        return result
