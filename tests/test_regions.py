import random
import unittest

from helpers import FAR, Unchanged, points_of, random_rectangles, region_points
from pastamended.errors import WrongRegion
from pastamended.regions import (
    at_known, at_moment, check_region, holds, meet, minus, rectangles_of, region_of, size, unite,
)
from pastamended.spans import spans_of

ROUND = [(1, 2, [(0, 10)]), (2, 4, [(0, 20)]), (4, 5, [(0, 10)])]
WRONG = {
    "empty strip": [(2, 2, [(0, 1)])],
    "reversed strip": [(3, 2, [(0, 1)])],
    "empty span": [(0, 1, [(4, 4)])],
    "empty span behind another": [(0, 1, [(1, 2), (4, 4)])],
    "reversed span": [(0, 1, [(4, 3)])],
    "touching spans": [(0, 1, [(1, 3), (3, 4)])],
    "overlapping spans": [(0, 1, [(1, 3), (2, 4)])],
    "equal spans": [(0, 1, [(1, 3), (1, 3)])],
    "spans in a wrong order": [(0, 1, [(5, 6), (1, 3)])],
    "strips in a wrong order": [(4, 5, [(1, 3)]), (0, 1, [(1, 3)])],
    "negative moment": [(0, 1, [(-1, 3)])],
    "negative moment in front of others": [(0, 1, [(-1, 1), (2, 3)])],
    "negative moments": [(0, 1, [(-3, -1)])],
    "negative known number": [(-1, 1, [(1, 3)])],
    "equal neighbouring strips": [(0, 1, [(1, 3)]), (1, 2, [(1, 3)])],
    "overlapping strips": [(0, 2, [(1, 3)]), (1, 3, [(1, 4)])],
    "the same strip twice": [(0, 2, [(1, 3)]), (0, 2, [(1, 3)])],
    "strip without spans": [(0, 1, [])],
    "last strip without spans": [(0, 1, [(1, 3)]), (1, 2, [])],
}


def plain_region(points):
    """The region of a set of points, found known number by known number."""
    strips = []
    for n in sorted({n for _, n in points}):
        spans = spans_of([(m, m + 1) for m, other in points if other == n])
        if strips and strips[-1][1] == n and strips[-1][2] == spans:
            strips[-1] = (strips[-1][0], n + 1, spans)
        else:
            strips.append((n, n + 1, spans))
    return strips


class RegionsTest(unittest.TestCase):
    def setUp(self):
        self.call = Unchanged(self)

    def test_example(self):
        self.assertEqual(region_of([(0, 10, 1, 5), (3, 20, 2, 4)]), ROUND)

    def test_empty(self):
        self.assertEqual(region_of([]), [])
        self.assertEqual(region_of([(3, 3, 0, 5), (4, 2, 0, 5), (0, 5, 7, 7), (0, 5, 7, 6)]), [])
        for combine in (unite, meet, minus):
            self.assertEqual(combine([], []), [])
        self.assertEqual(unite([], ROUND), ROUND)
        self.assertEqual(unite(ROUND, []), ROUND)
        self.assertEqual(meet([], ROUND), [])
        self.assertEqual(meet(ROUND, []), [])
        self.assertEqual(minus([], ROUND), [])
        self.assertEqual(minus(ROUND, []), ROUND)
        self.assertEqual((size([]), rectangles_of([]), at_known([], 0), at_moment([], 0)), (0, [], [], []))
        self.assertFalse(holds([], 0, 0))

    def test_strips_that_touch(self):
        self.assertEqual(region_of([(0, 5, 0, 3), (0, 5, 3, 7)]), [(0, 7, [(0, 5)])])
        self.assertEqual(region_of([(0, 5, 0, 3), (0, 6, 3, 7)]), [(0, 3, [(0, 5)]), (3, 7, [(0, 6)])])
        self.assertEqual(region_of([(0, 5, 0, 3), (0, 5, 4, 7)]), [(0, 3, [(0, 5)]), (4, 7, [(0, 5)])])
        self.assertEqual(unite([(0, 3, [(0, 5)])], [(3, 7, [(0, 5)])]), [(0, 7, [(0, 5)])])
        self.assertEqual(minus(ROUND, [(2, 4, [(10, 20)])]), [(1, 5, [(0, 10)])])
        self.assertEqual(minus(ROUND, [(0, 9, [(0, 10)])]), [(2, 4, [(10, 20)])])
        self.assertEqual(meet(ROUND, [(0, 9, [(0, 10)])]), [(1, 5, [(0, 10)])])

    def test_touching_and_overlapping_rectangles(self):
        self.assertEqual(region_of([(5, 9, 0, 2), (0, 5, 0, 2)]), [(0, 2, [(0, 9)])])
        self.assertEqual(region_of([(0, 5, 0, 2), (0, 5, 0, 2)]), [(0, 2, [(0, 5)])])
        self.assertEqual(region_of([(0, 9, 0, 9), (2, 3, 4, 5)]), [(0, 9, [(0, 9)])])
        self.assertEqual(minus(region_of([(0, 9, 0, 9)]), region_of([(0, 9, 0, 9)])), [])

    def test_at_and_beside_the_bounds(self):
        region = region_of([(2, 4, 3, 5), (4, 6, 5, 8)])
        held = {(m, k) for m in range(-1, 10) for k in range(-1, 10) if holds(region, m, k)}
        self.assertEqual(held, points_of([(2, 4, 3, 5), (4, 6, 5, 8)]))
        self.assertEqual([at_known(region, k) for k in (2, 3, 4, 5, 7, 8)],
                         [[], [(2, 4)], [(2, 4)], [(4, 6)], [(4, 6)], []])
        self.assertEqual([at_moment(region, m) for m in (1, 2, 3, 4, 5, 6)],
                         [[], [(3, 5)], [(3, 5)], [(5, 8)], [(5, 8)], []])

    def test_at_moment_joins_touching_strips(self):
        self.assertEqual(at_moment(ROUND, 3), [(1, 5)])
        self.assertEqual(at_moment(ROUND, 15), [(2, 4)])
        self.assertEqual(at_moment([(0, 2, [(0, 1)]), (3, 4, [(0, 1)])], 0), [(0, 2), (3, 4)])

    def test_size_and_rectangles(self):
        self.assertEqual(size(ROUND), 10 + 40 + 10)
        region = [(0, 2, [(0, 1), (3, 5)]), (2, 3, [(3, 5)])]
        self.assertEqual(size(region), 8)
        self.assertEqual(rectangles_of(region), [(0, 1, 0, 2), (3, 5, 0, 2), (3, 5, 2, 3)])

    def test_far_bounds(self):
        far = region_of([(0, FAR, 0, FAR)])
        self.assertEqual(far, [(0, FAR, [(0, FAR)])])
        self.assertEqual(size(far), FAR * FAR)
        hole = minus(far, region_of([(1, FAR - 1, 1, FAR - 1)]))
        self.assertEqual(hole, [(0, 1, [(0, FAR)]), (1, FAR - 1, [(0, 1), (FAR - 1, FAR)]),
                                (FAR - 1, FAR, [(0, FAR)])])
        self.assertTrue(holds(hole, FAR - 1, 5))
        self.assertFalse(holds(hole, FAR - 2, FAR - 2))
        self.assertFalse(holds(hole, FAR, 5))
        self.assertEqual(at_moment(hole, 7), [(0, 1), (FAR - 1, FAR)])
        self.assertEqual(unite(hole, far), far)
        self.assertEqual(meet(hole, region_of([(5, 6, 0, FAR * FAR)])), [(0, 1, [(5, 6)]), (FAR - 1, FAR, [(5, 6)])])
        self.assertIsNone(check_region(hole))

    def test_against_sets_of_points(self):
        source = random.Random(4)
        for _ in range(400):
            one = random_rectangles(source, source.randrange(6))
            two = random_rectangles(source, source.randrange(6))
            self.check_pair(one, two)

    def check_pair(self, one, two):
        first, second = self.call(region_of, one), self.call(region_of, two)
        points, others = points_of(one), points_of(two)
        self.assertEqual(first, plain_region(points))
        self.assertEqual(self.call(unite, first, second), plain_region(points | others))
        self.assertEqual(self.call(meet, first, second), plain_region(points & others))
        self.assertEqual(self.call(minus, first, second), plain_region(points - others))
        for region in (first, second, unite(first, second), meet(first, second), minus(first, second)):
            self.assertIsNone(self.call(check_region, region))
        self.check_one(first, points)

    def check_one(self, region, points):
        self.assertEqual(region_points(region), points)
        self.assertEqual(self.call(size, region), len(points))
        self.assertEqual(points_of(self.call(rectangles_of, region)), points)
        self.assertEqual(self.call(region_of, rectangles_of(region)[::-1]), region)
        for n in range(10):
            self.assertEqual(self.call(at_known, region, n), spans_of([(m, m + 1) for m, k in points if k == n]))
            self.assertEqual(self.call(at_moment, region, n), spans_of([(k, k + 1) for m, k in points if m == n]))
            self.assertEqual([self.call(holds, region, m, n) for m in range(10)], [(m, n) in points for m in range(10)])

    def test_a_result_is_no_part_of_another(self):
        region = region_of([(0, 5, 0, 3), (0, 5, 4, 7)])
        at_known(region, 0).append((8, 9))
        region[0][2].append((8, 9))
        self.assertEqual(region, [(0, 3, [(0, 5), (8, 9)]), (4, 7, [(0, 5)])])

    def test_many_rectangles(self):
        steps = [(n, n + 3, n, n + 3) for n in range(1500)]
        region = region_of(steps)
        self.assertEqual(size(region), 9 * 1500 - 4 * 1499)
        self.assertEqual(minus(region, region_of(steps[::-1])), [])
        self.assertEqual(region_of([(0, 10 ** 9, n, 10 ** 9) for n in range(3000)]), [(0, 10 ** 9, [(0, 10 ** 9)])])


class CheckRegionTest(unittest.TestCase):
    def test_regions(self):
        regions = [[], ROUND, [(0, 1, [(0, 1)])], [(0, 1, [(0, 1)]), (2, 3, [(0, 1)])],
                   [(0, 1, [(0, 1)]), (1, 3, [(0, 1), (2, 3)])]]
        for region in regions:
            self.assertIsNone(Unchanged(self)(check_region, region))

    def test_wrong_values(self):
        for name, value in WRONG.items():
            for before in ([], [(0, 1, [(0, 7)])]):
                later = [(j + 2, k + 2, spans) for j, k, spans in value] if before else value
                if before and name == "negative known number":
                    later = value
                with self.subTest(name, behind=len(before)):
                    with self.assertRaises(WrongRegion):
                        check_region(before + later)

    def test_every_small_value(self):
        spans = [[], [(0, 1)], [(0, 2)], [(0, 1), (1, 2)], [(1, 2), (0, 1)], [(-1, 1)], [(0, 1), (2, 3)], [(1, 1)]]
        strips = [(j, k, some) for j in range(-1, 3) for k in range(0, 4) for some in spans]
        for first in strips:
            for second in strips:
                value = [first, second]
                if self.accepts(value):
                    self.assertEqual(region_of(rectangles_of(value)), value)
                elif all([a >= 0 for a, b, j, k in rectangles_of(value)]) and first[0] >= 0:
                    self.assertNotEqual(region_of(rectangles_of(value)), value)

    def accepts(self, value):
        try:
            check_region(value)
        except WrongRegion:
            return False
        return True


if __name__ == "__main__":
    unittest.main()
