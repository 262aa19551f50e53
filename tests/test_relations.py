import random
import unittest

from helpers import FAR, Unchanged, random_region, random_relation, region_points
from pastamended.regions import check_region, region_of
from pastamended.relations import (
    cut, meet_relations, minus_relations, relation_of, unite_relations, within,
)

ROWS = [(1, "a"), (1, "b"), (2, ""), (2, "a"), (-3, "a")]
LOW = [(0, 2, [(0, 5)])]
HIGH = [(2, 4, [(0, 5)])]
WIDE = [(0, 4, [(0, 5)])]


def points_by_row(relation):
    return {row: region_points(region) for row, region in relation}


def plain_relation(points):
    """The relation of a dict from rows to sets of points, found point by point."""
    return [(row, region_of([(m, m + 1, k, k + 1) for m, k in points[row]])) for row in sorted(points) if points[row]]


class RelationsTest(unittest.TestCase):
    def setUp(self):
        self.call = Unchanged(self)

    def test_order_of_rows(self):
        pairs = [((2, "a"), LOW), ((1, "b"), LOW), ((-5, "z"), LOW), ((1, "a"), LOW), ((1, "Z"), LOW), ((1, ""), LOW)]
        rows = [(-5, "z"), (1, ""), (1, "Z"), (1, "a"), (1, "b"), (2, "a")]
        self.assertEqual(self.call(relation_of, pairs), [(row, LOW) for row in rows])
        self.assertEqual(relation_of([((10,), LOW), ((9,), HIGH)]), [((9,), HIGH), ((10,), LOW)])

    def test_equal_rows(self):
        self.assertEqual(self.call(relation_of, [((1,), LOW), ((0,), LOW), ((1,), HIGH)]), [((0,), LOW), ((1,), WIDE)])
        self.assertEqual(relation_of([((1,), LOW), ((1,), LOW), ((1,), LOW)]), [((1,), LOW)])
        many = [((1,), [(n, n + 1, [(0, 5)])]) for n in range(7)]
        self.assertEqual(self.call(relation_of, many[::-1]), [((1,), [(0, 7, [(0, 5)])])])
        steps = [((1,), [(n, n + 1, [(n, n + 1)])]) for n in range(3)]
        self.assertEqual(relation_of(steps), [((1,), [(0, 1, [(0, 1)]), (1, 2, [(1, 2)]), (2, 3, [(2, 3)])])])

    def test_empty_regions(self):
        self.assertEqual(relation_of([]), [])
        self.assertEqual(self.call(relation_of, [((1,), []), ((2,), LOW), ((2,), []), ((3,), []), ((3,), [])]),
                         [((2,), LOW)])

    def test_cut_at_and_beside_bounds(self):
        relation = [((1,), [(2, 4, [(3, 5), (7, 8)])]), ((2,), [(3, 6, [(4, 9)])])]
        expected = {(2, 2): [], (3, 1): [], (3, 2): [(1,)], (4, 2): [(1,)], (5, 2): [], (6, 2): [], (7, 3): [(1,), (2,)],
                    (8, 3): [(2,)], (7, 4): [(2,)], (3, 3): [(1,)], (4, 3): [(1,), (2,)], (4, 5): [(2,)], (4, 6): [],
                    (9, 5): [], (8, 5): [(2,)], (0, 0): []}
        for (m, k), rows in expected.items():
            self.assertEqual(self.call(cut, relation, m, k), rows, (m, k))
        self.assertEqual(cut([], 0, 0), [])

    def test_within(self):
        relation = [((1,), LOW), ((2,), WIDE)]
        self.assertEqual(self.call(within, relation, HIGH), [((2,), HIGH)])
        self.assertEqual(within(relation, []), [])
        self.assertEqual(within([], WIDE), [])
        self.assertEqual(within(relation, [(1, 3, [(2, 9)])]), [((1,), [(1, 2, [(2, 5)])]), ((2,), [(1, 3, [(2, 5)])])])

    def test_sets(self):
        first = [((1,), LOW), ((2,), WIDE), ((4,), LOW)]
        second = [((1,), HIGH), ((2,), LOW), ((3,), LOW)]
        self.assertEqual(self.call(unite_relations, first, second),
                         [((1,), WIDE), ((2,), WIDE), ((3,), LOW), ((4,), LOW)])
        self.assertEqual(self.call(meet_relations, first, second), [((2,), LOW)])
        self.assertEqual(self.call(minus_relations, first, second), [((1,), LOW), ((2,), HIGH), ((4,), LOW)])
        self.assertEqual(self.call(minus_relations, second, first), [((1,), HIGH), ((3,), LOW)])

    def test_sets_with_nothing(self):
        relation = [((1,), LOW), ((2,), WIDE)]
        for combine, left, right in ((unite_relations, relation, relation), (meet_relations, [], []),
                                     (minus_relations, relation, [])):
            self.assertEqual(combine(relation, []), left)
            self.assertEqual(combine([], relation), right)
            self.assertEqual(combine([], []), [])
        self.assertEqual(minus_relations(relation, relation), [])
        self.assertEqual(meet_relations(relation, relation), relation)
        self.assertEqual(unite_relations(relation, relation), relation)

    def test_against_sets_of_points(self):
        source = random.Random(21)
        for _ in range(300):
            first, second = random_relation(source, ROWS, 6), random_relation(source, ROWS, 6)
            one, two = points_by_row(first), points_by_row(second)
            nothing = {row: set() for row in ROWS}
            one, two = {**nothing, **one}, {**nothing, **two}
            self.check(unite_relations, first, second, {row: one[row] | two[row] for row in ROWS})
            self.check(meet_relations, first, second, {row: one[row] & two[row] for row in ROWS})
            self.check(minus_relations, first, second, {row: one[row] - two[row] for row in ROWS})
            region = random_region(source, 6)
            self.check(within, first, region, {row: one[row] & region_points(region) for row in ROWS})
            pairs = first + second + random_relation(source, ROWS, 6)
            source.shuffle(pairs)
            points = {row: set().union(*[region_points(own) for other, own in pairs if other == row]) for row in ROWS}
            self.assertEqual(self.call(relation_of, pairs), plain_relation(points))

    def check(self, combine, first, second, points):
        relation = self.call(combine, first, second)
        self.assertEqual(relation, plain_relation(points))
        for _, region in relation:
            self.assertIsNone(check_region(region))
        for m in range(7):
            for k in range(7):
                self.assertEqual(cut(relation, m, k), sorted([row for row in points if (m, k) in points[row]]))

    def test_far_bounds(self):
        far = region_of([(0, FAR, 0, FAR)])
        relation = relation_of([((1,), far), ((1,), [(FAR, FAR + 1, [(0, 3)])])])
        self.assertEqual(cut(relation, FAR - 1, FAR - 1), [(1,)])
        self.assertEqual(cut(relation, 2, FAR), [(1,)])
        self.assertEqual(cut(relation, 3, FAR), [])
        self.assertEqual(minus_relations(relation, [((1,), far)]), [((1,), [(FAR, FAR + 1, [(0, 3)])])])

    def test_many_rows(self):
        pairs = [((n * 7919 % 2000, "x"), region_of([(n, n + 5000, 3, 10 ** 6)])) for n in range(4000)]
        relation = relation_of(pairs)
        self.assertEqual(len(relation), 2000)
        self.assertEqual(unite_relations(relation, relation), relation)
        self.assertEqual(minus_relations(relation, relation), [])
        self.assertEqual(len(cut(relation, 4000, 7)), 2000)


if __name__ == "__main__":
    unittest.main()
