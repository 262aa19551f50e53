import random
import time
import unittest

from helpers import (
    MeaningMaker, Unchanged, cell, cuts_of, number, random_region, random_relation, region_points, select,
)
from pastamended.answers import answer
from pastamended.plain_answers import plain_answer
from pastamended.plans import planned_answer
from pastamended.regions import region_of
from pastamended.relations import cut, relation_of
from pastamended.rewriting import rewrite

KINDS = {"t": ["number", "text"], "s": ["number", "number"], "none": ["text", "number"]}
ROWS = {"t": [(1, "a"), (1, "b"), (2, "a"), (5, "c")], "s": [(1, 1), (1, 2), (2, 1), (2, 30)]}
MOST = 7
ALL = [(0, 9, [(0, 9)])]
ROUND = region_of([(0, 5, 0, 4), (3, 8, 2, 7), (7, 9, 0, 1)])
TABLES = {
    "t": [((1, "a"), [(0, 3, [(0, 4)])]), ((1, "b"), [(2, 6, [(2, 5)])]), ((2, "a"), ALL), ((5, "c"), ROUND)],
    "s": [((1, 1), ALL), ((1, 2), ROUND), ((2, 1), [(2, 6, [(2, 5)])]), ((2, 30), [(1, 6, [(4, 7)])])],
    "none": [],
}
NUMBERS = ([], [0], [1], [2], [5], [0, 1], [1, 0], [3, 10 ** 30, 4], [10 ** 40 + 7], list(range(30)))


def eq(left, right):
    return ("eq", left, right)


class Planned(unittest.TestCase):
    def check(self, question, tables=None, region=ALL, numbers=NUMBERS):
        tables = TABLES if tables is None else tables
        expected = answer(question, tables, region)
        held = region_points(region)
        for m in range(10):
            for k in range(10):
                rows = plain_answer(question, cuts_of(tables, m, k)) if (m, k) in held else []
                self.assertEqual(cut(expected, m, k), rows, (question, m, k))
        for orders in numbers:
            self.assertEqual(Unchanged(self)(planned_answer, question, tables, region, orders), expected, orders)
        self.assertEqual(relation_of(expected), expected)
        return expected


class PlannedAnswerTest(Planned):
    def test_one_source(self):
        self.check(select([cell(0, 0)], ["t"]))
        self.check(select([cell(0, 1)], ["t"], eq(cell(0, 0), number(1))), None, ROUND)
        self.check(select([cell(0, 1)], ["t"], eq(number(3), cell(0, 0))))
        self.check(select([cell(0, 1)], ["none"]))
        self.assertEqual(planned_answer(select([cell(0, 0)], ["t"]), TABLES, [], []), [])

    def test_columns_with_columns(self):
        self.check(select([cell(0, 1), cell(1, 1)], ["t", "s"], eq(cell(0, 0), cell(1, 0))), None, ROUND)
        self.check(select([cell(0, 1), cell(1, 1)], ["t", "s"], eq(cell(1, 0), cell(0, 0))))
        self.check(select([cell(0, 0), cell(1, 0)], ["t", "t"], eq(cell(0, 1), cell(1, 1))))
        self.check(select([cell(0, 0)], ["s"], eq(cell(0, 0), cell(0, 1))))

    def test_several_columns_and_sums(self):
        both = ("and", eq(cell(0, 0), cell(1, 0)), eq(cell(1, 1), ("add", cell(0, 0), number(0))))
        self.check(select([cell(0, 1), cell(1, 1)], ["t", "s"], both), None, ROUND)
        total = eq(("add", cell(0, 0), cell(1, 0)), cell(2, 0))
        self.check(select([cell(0, 0), cell(1, 1), cell(2, 1)], ["t", "s", "t"], total))
        self.check(select([cell(2, 1)], ["s", "s", "t"], ("and", total, ("lt", cell(0, 1), cell(1, 1)))))

    def test_two_equalities_for_one_column(self):
        where = ("and", eq(cell(0, 0), number(1)), eq(cell(0, 0), number(2)))
        self.check(select([cell(0, 1)], ["t"], where))
        where = ("and", eq(cell(0, 0), number(1)), eq(cell(0, 0), cell(1, 1)))
        self.check(select([cell(0, 1), cell(1, 0)], ["t", "s"], where))

    def test_parts_that_name_no_source(self):
        some = ("exists", select([number(1)], ["s"], eq(cell(0, 1), number(30))))
        for where in (some, ("not", some), ("truth", False), ("truth", True), eq(number(1), number(2)),
                      ("and", some, eq(cell(0, 0), number(2)))):
            self.check(select([cell(0, 1), cell(1, 0)], ["t", "s"], where))

    def test_exists(self):
        inner = ("exists", select([number(1)], ["s", "t"], ("and", eq(cell(0, 0), cell(1, 0)), eq(cell(1, 1), cell(0, 1, 1)))))
        for where in (inner, ("not", inner), ("or", inner, eq(cell(0, 0), number(5)))):
            self.check(select([cell(0, 0), cell(0, 1)], ["t"], where), None, ROUND)
            self.check(select([cell(0, 0), cell(1, 0)], ["t", "s"], where))
        deep = select([number(1)], ["s", "t"], ("and", eq(cell(0, 1), cell(0, 0, 2)), ("exists", select(
            [number(1)], ["t", "s"], ("and", eq(cell(0, 0), cell(1, 0, 1)), eq(cell(1, 0), cell(0, 0, 3)))))))
        self.check(select([cell(0, 1)], ["t"], ("exists", select([number(1)], ["s"], ("exists", deep)))))

    def test_exists_of_each_form(self):
        one = select([cell(0, 0)], ["t", "s"], eq(cell(0, 0), cell(1, 1)))
        two = select([cell(1, 0)], ["t", "s"], eq(cell(1, 1), cell(0, 0, 1)))
        gathered = select([cell(1, 0)], ["t", "s"], eq(cell(1, 1), cell(0, 0, 1)), [cell(1, 0)], ("gt", ("count",), number(2)))
        for word in ("union", "except", "intersect"):
            for left, right in ((one, two), (two, one), (gathered, one), (two, gathered)):
                self.check(select([cell(0, 1)], ["t"], ("exists", (word, left, right))), None, ROUND)

    def test_set_operators(self):
        one = select([cell(0, 0)], ["t", "s"], eq(cell(0, 0), cell(1, 1)))
        two = select([cell(1, 0)], ["t", "s"], eq(cell(0, 0), cell(1, 0)))
        for word in ("union", "except", "intersect"):
            self.check((word, one, two), None, ROUND)
            self.check((word, ("except", two, one), ("union", one, two)))

    def test_groups_and_gatherings(self):
        gatherings = [("count",), ("sum", cell(1, 1)), ("least", cell(0, 1)), ("greatest", cell(1, 0))]
        for where in (None, eq(cell(0, 0), cell(1, 0)), ("lt", cell(0, 0), cell(1, 1))):
            self.check(select(gatherings, ["t", "s"], where, []), None, ROUND)
            self.check(select([cell(0, 1)] + gatherings, ["t", "s"], where, [cell(0, 1)]))
            self.check(select(gatherings, ["t", "s"], where, [cell(1, 0)], ("gt", ("count",), number(1))))

    def test_random_questions(self):
        source = random.Random(94)
        maker = MeaningMaker(source, KINDS)
        for _ in range(300):
            question = maker.question(maker.kinds(), [], 3)
            numbers = [[], [0], [source.randrange(10 ** 9) for _ in range(source.randrange(1, 5))]]
            region = random_region(source, MOST)
            found = self.check(question, self.tables(source), region, numbers)
            self.assertIsNotNone(found)

    def test_random_joins(self):
        source = random.Random(95)
        maker = MeaningMaker(source, KINDS)
        for _ in range(200):
            names = [source.choice(["t", "s"]) for _ in range(source.randrange(2, 5))]
            where = maker.condition([names], 2)
            for _ in range(source.randrange(4)):
                where = ("and", eq(maker.value("number", [names], 1), maker.value("number", [names], 1)), where)
            group = source.choice([None, [], [cell(0, 0)]])
            items = [cell(0, 0), cell(1, 0)] if group is None else [("count",), ("sum", cell(1, 0))]
            question = select(items, names, where, group)
            numbers = [[], [0], [source.randrange(24) for _ in range(source.randrange(1, 4))]]
            self.check(question, self.tables(source), random_region(source, MOST), numbers)

    def test_rewritten_questions(self):
        source = random.Random(96)
        maker = MeaningMaker(source, KINDS)
        for _ in range(200):
            question, tables = maker.question(maker.kinds(), [], 3), self.tables(source)
            self.assertEqual(planned_answer(rewrite(question), tables, ROUND, []), answer(question, tables, ROUND))

    def tables(self, source):
        return {"t": random_relation(source, ROWS["t"], MOST), "s": random_relation(source, ROWS["s"], MOST), "none": []}


class IndexedTest(unittest.TestCase):
    """Rows are found by indexes: there are far too many pairs of rows to look at each of them."""

    def test_long_joins(self):
        everything = [(0, 10 ** 6, [(0, 10 ** 6)])]
        count = 4000
        tables = {"t": [((n, n + 1), everything) for n in range(count)], "s": [((n,), everything) for n in range(count)]}
        chain = ("and", eq(cell(0, 1), cell(1, 0)), eq(cell(2, 0), cell(1, 1)))
        other = ("exists", select([number(1)], ["s", "t"], ("and", eq(cell(0, 0), cell(0, 0, 1)),
                                                            eq(cell(1, 0), ("add", cell(0, 0), number(2))))))
        started = time.perf_counter()
        for orders in ([], [0], [5], [3, 1]):
            found = planned_answer(select([cell(0, 0), cell(2, 0)], ["t", "t", "s"], chain), tables, everything, orders)
            self.assertEqual([row for row, _ in found], [(n, n + 2) for n in range(count - 2)])
        found = planned_answer(select([cell(0, 0)], ["s"], other), tables, everything, [])
        self.assertEqual([row for row, _ in found], [(n,) for n in range(count - 2)])
        self.assertLess(time.perf_counter() - started, 30)


if __name__ == "__main__":
    unittest.main()
