import random
import unittest

from pastamended.values import END, MOST, OPEN, kind_of, quotient, remainder, wrap, write_value


class ValuesTest(unittest.TestCase):
    def test_bounds(self):
        self.assertEqual((MOST, END, OPEN), (10 ** 18, 1000000, 1000000))

    def test_wrap_keeps_numbers(self):
        for n in (0, 1, -1, 7, MOST, -MOST, MOST - 1, 1 - MOST):
            self.assertEqual(wrap(n), n)

    def test_wrap_beyond_the_bounds(self):
        self.assertEqual(wrap(MOST + 1), -MOST)
        self.assertEqual(wrap(-MOST - 1), MOST)
        self.assertEqual(wrap(MOST + 2), 1 - MOST)
        self.assertEqual(wrap(2 * MOST), -1)
        self.assertEqual(wrap(2 * MOST + 1), 0)
        self.assertEqual(wrap(-2 * MOST - 1), 0)
        self.assertEqual(wrap(MOST * MOST), (MOST * MOST + MOST) % (2 * MOST + 1) - MOST)

    def test_wrap_of_any_size(self):
        source = random.Random(1)
        for _ in range(300):
            n = source.randrange(-10 ** 60, 10 ** 60)
            self.assertTrue(-MOST <= wrap(n) <= MOST)
            self.assertEqual((n - wrap(n)) % (2 * MOST + 1), 0)

    def test_quotient_is_rounded_down(self):
        cases = [(7, 2, 3), (-7, 2, -4), (7, -2, -4), (-7, -2, 3), (6, 3, 2), (-6, 3, -2), (0, 5, 0), (1, MOST, 0),
                 (-1, MOST, -1), (MOST, -1, -MOST), (-MOST, -1, MOST), (-MOST, 1, -MOST), (MOST, MOST, 1)]
        for x, y, z in cases:
            self.assertEqual(quotient(x, y), z, (x, y))

    def test_remainder_has_the_sign_of_the_second(self):
        cases = [(7, 2, 1), (-7, 2, 1), (7, -2, -1), (-7, -2, -1), (6, 3, 0), (-6, -3, 0), (0, 5, 0),
                 (-1, MOST, MOST - 1), (1, -MOST, 1 - MOST), (MOST, MOST, 0), (-MOST, -1, 0)]
        for x, y, z in cases:
            self.assertEqual(remainder(x, y), z, (x, y))

    def test_division_by_zero(self):
        for x in (0, 1, -1, 7, -7, MOST, -MOST):
            self.assertEqual(quotient(x, 0), 0)
            self.assertEqual(remainder(x, 0), x)

    def test_quotient_and_remainder_together(self):
        source = random.Random(2)
        for _ in range(500):
            x, y = source.randrange(-MOST, MOST + 1), source.randrange(-10 ** source.randrange(1, 19), 10 ** 18)
            if y != 0:
                self.assertEqual(quotient(x, y) * y + remainder(x, y), x)
                self.assertTrue(0 <= remainder(x, y) < y or y < remainder(x, y) <= 0)

    def test_kinds(self):
        self.assertEqual([kind_of(value) for value in (0, -3, MOST)], ["number"] * 3)
        self.assertEqual([kind_of(value) for value in ("", "7", "a b")], ["text"] * 3)

    def test_write_value(self):
        cases = [(0, "0"), (12, "12"), (-5, "-5"), (MOST, "1" + "0" * 18), (-MOST, "-1" + "0" * 18),
                 ("", '""'), ("a b", '"a b"'), ("7", '"7"'), ("~'\\", "\"~'\\\"")]
        for value, text in cases:
            self.assertEqual(write_value(value), text)

    def test_examples(self):
        self.assertEqual(quotient(-7, 2), -4)
        self.assertEqual(remainder(-7, 0), -7)


if __name__ == "__main__":
    unittest.main()
