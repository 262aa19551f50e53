import unittest

from helpers import Unchanged, cell, number, select
from pastamended.parts import parts, sources_of

A, B, C, D = [("eq", cell(n, 0), number(n)) for n in range(4)]


class PartsTest(unittest.TestCase):
    def check(self, condition, expected):
        self.assertEqual(Unchanged(self)(parts, condition), expected)

    def test_parts(self):
        self.check(None, [])
        self.check(A, [A])
        self.check(("and", A, B), [A, B])
        self.check(("and", B, A), [B, A])
        self.check(("and", ("and", A, B), ("and", C, D)), [A, B, C, D])
        self.check(("and", A, ("and", B, ("and", C, D))), [A, B, C, D])
        self.check(("and", ("and", ("and", A, B), A), A), [A, B, A, A])

    def test_other_conditions_are_their_only_part(self):
        for condition in (("or", ("and", A, B), C), ("not", ("and", A, B)), ("truth", True), ("truth", False),
                          ("exists", select([number(1)], ["t"], ("and", A, B)))):
            self.check(condition, [condition])
            self.check(("and", condition, A), [condition, A])
        self.check(("and", ("truth", True), ("truth", True)), [("truth", True), ("truth", True)])

    def test_long_chains(self):
        left = right = A
        for _ in range(190):
            left, right = ("and", left, B), ("and", B, right)
        self.check(left, [A] + [B] * 190)
        self.check(right, [B] * 190 + [A])


class SourcesTest(unittest.TestCase):
    def check(self, e, expected):
        self.assertEqual(Unchanged(self)(sources_of, e), expected)

    def test_expressions(self):
        self.check(number(7), [])
        self.check(("text", "cell"), [])
        self.check(("truth", True), [])
        self.check(("count",), [])
        self.check(cell(3, 1), [3])
        self.check(cell(3, 1, 1), [])
        self.check(("eq", cell(3, 1), cell(0, 2)), [0, 3])
        self.check(("and", ("lt", cell(2, 0), cell(2, 1)), ("not", ("eq", cell(2, 0), ("neg", cell(0, 0))))), [0, 2])
        self.check(("sum", ("add", cell(1, 0), cell(5, 0, 1))), [1])
        self.check(("or", ("eq", cell(10, 0), number(1)), ("eq", cell(9, 0), number(1))), [9, 10])

    def test_exists(self):
        self.check(("exists", select([cell(1, 0)], ["t"])), [])
        self.check(("exists", select([cell(1, 0, 1)], ["t"])), [1])
        self.check(("exists", select([number(1)], ["t"], ("eq", cell(0, 0), cell(2, 1, 1)))), [2])
        self.check(("exists", select([number(1)], ["t"], ("eq", cell(0, 0), cell(2, 1, 2)))), [])
        self.check(("and", ("eq", cell(3, 0), cell(4, 0, 1)), ("exists", select([cell(1, 0, 1)], ["t"]))), [1, 3])

    def test_every_clause_inside_exists(self):
        inner = select([("least", cell(1, 0, 1))], ["t"], ("eq", cell(2, 0, 1), cell(0, 0)), [cell(7, 0)],
                       ("eq", ("greatest", cell(3, 0, 1)), cell(4, 0, 1)))
        self.check(("exists", inner), [1, 2, 3, 4])
        other = select([cell(5, 0, 1)], ["t"])
        for word in ("union", "except", "intersect"):
            self.check(("exists", (word, inner, other)), [1, 2, 3, 4, 5])
            self.check(("not", ("exists", (word, other, (word, other, select([cell(6, 0, 1)], ["t"]))))), [5, 6])

    def test_exists_inside_exists(self):
        deep = ("exists", select([cell(0, 0), cell(1, 0, 1), cell(2, 0, 2), cell(3, 0, 3)], ["t"]))
        self.check(deep, [1])
        middle = ("exists", select([cell(4, 0, 1)], ["t"], deep))
        self.check(middle, [2, 4])
        self.check(("exists", select([number(1)], ["t"], ("and", middle, ("eq", cell(8, 0), cell(9, 0, 1))))), [3, 9])

    def test_deep_expressions(self):
        e = cell(4, 0)
        for _ in range(190):
            e = ("neg", e)
        self.check(e, [4])
        e = cell(4, 0)
        for n in range(190):
            e = ("add", e, cell(n % 3, 0))
        self.check(e, [0, 1, 2, 4])


if __name__ == "__main__":
    unittest.main()
