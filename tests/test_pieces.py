import random
import unittest

from helpers import FAR, Unchanged, points_of, random_rectangles, region_points
from pastamended.pieces import pieces
from pastamended.regions import holds, region_of, size, unite


class PiecesTest(unittest.TestCase):
    def setUp(self):
        self.call = Unchanged(self)

    def check(self, regions, window):
        found = self.call(pieces, regions, window)
        self.check_order(found)
        self.assertEqual(sum([len(points_of([piece])) for piece in found]), len(points_of([window])))
        self.assertEqual(points_of(found), points_of([window]))
        sets = [region_points(region) for region in regions]
        for piece in found:
            inside = points_of([piece])
            for points in sets:
                self.assertIn(len(inside & points), (0, len(inside)))
        return found

    def check_order(self, found):
        self.assertEqual(found, sorted(found, key=lambda piece: (piece[2], piece[0])))
        self.assertTrue(all([a < b and j < k for a, b, j, k in found]))

    def test_no_regions(self):
        self.check([], (2, 5, 1, 3))
        self.check([[], []], (0, 1, 0, 1))

    def test_one_region(self):
        region = region_of([(2, 4, 2, 4)])
        self.check([region], (0, 6, 0, 6))
        self.check([region], (2, 4, 2, 4))
        self.check([region], (3, 4, 3, 4))
        self.check([region], (4, 6, 2, 4))
        self.check([region], (0, 3, 3, 9))

    def test_strips_that_touch_with_different_spans(self):
        self.check([region_of([(0, 10, 1, 5), (3, 20, 2, 4)])], (0, 25, 0, 6))

    def test_random_regions(self):
        source = random.Random(5)
        for _ in range(400):
            regions = [region_of(random_rectangles(source, source.randrange(4))) for _ in range(source.randrange(5))]
            a, j = source.randrange(7), source.randrange(7)
            self.check(regions, (a, a + source.randrange(1, 6), j, j + source.randrange(1, 6)))

    def test_far_bounds(self):
        window = (0, FAR, 0, FAR)
        regions = [region_of([(5, FAR - 5, 7, FAR - 7)]), region_of([(FAR // 2, FAR * FAR, 0, FAR * FAR)])]
        found = self.call(pieces, regions, window)
        self.check_order(found)
        self.assertEqual(sum([(b - a) * (k - j) for a, b, j, k in found]), FAR * FAR)
        self.assertEqual(region_of(found), region_of([window]))
        for a, b, j, k in found:
            for region in regions:
                corners = {holds(region, m, n) for m in (a, b - 1) for n in (j, k - 1)}
                self.assertEqual(len(corners), 1)
                self.assertIn(size(unite(region, region_of([(a, b, j, k)]))) - size(region), (0, (b - a) * (k - j)))

    def test_many_regions(self):
        regions = [region_of([(10 * n, 10 * n + 10, n % 50, FAR)]) for n in range(500)]
        found = pieces(regions, (0, 5000, 0, FAR))
        self.check_order(found)
        self.assertEqual(sum([(b - a) * (k - j) for a, b, j, k in found]), 5000 * FAR)
        self.assertEqual(region_of(found), [(0, FAR, [(0, 5000)])])


if __name__ == "__main__":
    unittest.main()
