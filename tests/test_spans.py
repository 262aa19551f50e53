import itertools
import random
import unittest

from helpers import FAR, Unchanged, integers_of, random_pairs
from pastamended.spans import spans_count, spans_hold, spans_meet, spans_minus, spans_of, spans_unite


def plain_spans(integers):
    """The spans of a set of integers, found one by one."""
    begins = [n for n in sorted(integers) if n - 1 not in integers]
    ends = [n + 1 for n in sorted(integers) if n + 1 not in integers]
    return list(zip(begins, ends))


class SpansTest(unittest.TestCase):
    def setUp(self):
        self.call = Unchanged(self)

    def test_example(self):
        self.assertEqual(spans_of([(5, 9), (1, 3), (3, 4), (7, 7)]), [(1, 4), (5, 9)])

    def test_empty(self):
        self.assertEqual(spans_of([]), [])
        self.assertEqual(spans_of([(3, 3), (5, 2), (0, 0)]), [])
        for combine in (spans_unite, spans_meet, spans_minus):
            self.assertEqual(combine([], []), [])
        self.assertEqual(spans_unite([(1, 2)], []), [(1, 2)])
        self.assertEqual(spans_unite([], [(1, 2)]), [(1, 2)])
        self.assertEqual(spans_meet([(1, 2)], []), [])
        self.assertEqual(spans_minus([(1, 2)], []), [(1, 2)])
        self.assertEqual(spans_minus([], [(1, 2)]), [])
        self.assertEqual(spans_count([]), 0)
        self.assertFalse(spans_hold([], 0))

    def test_equal_touching_and_overlapping_pairs(self):
        self.assertEqual(spans_of([(2, 5), (2, 5)]), [(2, 5)])
        self.assertEqual(spans_of([(5, 7), (2, 5)]), [(2, 7)])
        self.assertEqual(spans_of([(4, 7), (2, 5)]), [(2, 7)])
        self.assertEqual(spans_of([(2, 9), (3, 4)]), [(2, 9)])
        self.assertEqual(spans_of([(2, 5), (6, 7)]), [(2, 5), (6, 7)])
        self.assertEqual(spans_of([(0, 1), (3, 1), (1, 2)]), [(0, 2)])

    def test_two_sets_that_touch_or_are_equal(self):
        self.assertEqual(spans_unite([(1, 3)], [(3, 5)]), [(1, 5)])
        self.assertEqual(spans_unite([(3, 5)], [(1, 3)]), [(1, 5)])
        self.assertEqual(spans_meet([(1, 3)], [(3, 5)]), [])
        self.assertEqual(spans_minus([(1, 3)], [(3, 5)]), [(1, 3)])
        self.assertEqual(spans_minus([(1, 3), (5, 8)], [(1, 3), (5, 8)]), [])
        self.assertEqual(spans_meet([(1, 3), (5, 8)], [(1, 3), (5, 8)]), [(1, 3), (5, 8)])
        self.assertEqual(spans_minus([(0, 10)], [(2, 3), (5, 10)]), [(0, 2), (3, 5)])
        self.assertEqual(spans_meet([(0, 10)], [(2, 3), (5, 12)]), [(2, 3), (5, 10)])

    def test_far_bounds(self):
        far = [(1, FAR)]
        self.assertEqual(spans_of([(FAR, FAR + 2), (0, FAR)]), [(0, FAR + 2)])
        self.assertEqual(spans_minus(far, [(5, FAR - 1)]), [(1, 5), (FAR - 1, FAR)])
        self.assertEqual(spans_meet(far, [(FAR - 1, FAR * FAR)]), [(FAR - 1, FAR)])
        self.assertEqual(spans_unite(far, [(FAR, FAR * FAR)]), [(1, FAR * FAR)])
        self.assertEqual(spans_count(far), FAR - 1)
        self.assertTrue(spans_hold(far, FAR - 1))
        self.assertFalse(spans_hold(far, FAR))

    def test_hold_at_the_bounds(self):
        spans = [(2, 4), (6, 7), (9, 12)]
        held = [n for n in range(-1, 15) if spans_hold(spans, n)]
        self.assertEqual(held, [2, 3, 6, 9, 10, 11])

    def test_against_sets_of_integers(self):
        source = random.Random(3)
        for _ in range(600):
            pairs = random_pairs(source, source.randrange(6))
            others = random_pairs(source, source.randrange(6))
            self.check(pairs, others)

    def check(self, pairs, others):
        first, second = self.call(spans_of, pairs), self.call(spans_of, others)
        one, two = integers_of(pairs), integers_of(others)
        self.assertEqual(first, plain_spans(one))
        self.assertEqual(self.call(spans_unite, first, second), plain_spans(one | two))
        self.assertEqual(self.call(spans_meet, first, second), plain_spans(one & two))
        self.assertEqual(self.call(spans_minus, first, second), plain_spans(one - two))
        self.assertEqual(self.call(spans_count, first), len(one))
        self.assertEqual({n for n in range(-1, 14) if self.call(spans_hold, first, n)}, one)

    def test_all_small_sets(self):
        sets = [{n for n in range(4) if bits >> n & 1} for bits in range(16)]
        for one, two in itertools.product(sets, sets):
            first, second = plain_spans(one), plain_spans(two)
            self.assertEqual(spans_unite(first, second), plain_spans(one | two))
            self.assertEqual(spans_meet(first, second), plain_spans(one & two))
            self.assertEqual(spans_minus(first, second), plain_spans(one - two))

    def test_many_spans(self):
        even = [(4 * n, 4 * n + 2) for n in range(20000)]
        odd = [(4 * n + 2, 4 * n + 4) for n in range(20000)]
        self.assertEqual(spans_unite(even, odd), [(0, 80000)])
        self.assertEqual(spans_minus([(0, 80000)], even), odd)
        self.assertEqual(spans_count(odd), 40000)
        self.assertTrue(all([spans_hold(odd, a) and not spans_hold(even, a) for a, _ in odd]))


if __name__ == "__main__":
    unittest.main()
