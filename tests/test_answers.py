import random
import time
import unittest

from helpers import (
    MeaningMaker, Unchanged, cell, cuts_of, number, random_region, random_relation, region_points, select,
)
from pastamended.answers import answer, truth
from pastamended.plain_answers import plain_answer, value_of
from pastamended.regions import meet, region_of
from pastamended.relations import cut, relation_of, within

KINDS = {"t": ["number", "text"], "s": ["number", "number"], "none": ["text", "number"]}
ROWS = {"t": [(1, "a"), (1, "b"), (2, "a"), (5, "c")], "s": [(1, 10), (2, 20), (2, 30)]}
MOST = 7

LOW = [(0, 3, [(0, 4)])]
HIGH = [(2, 6, [(2, 5)])]
LATE = [(1, 6, [(4, 7)])]
ALL = [(0, 9, [(0, 9)])]
TABLES = {
    "t": [((1, "a"), LOW), ((1, "b"), HIGH), ((2, "a"), ALL), ((5, "c"), LATE)],
    "s": [((1, 10), ALL), ((2, 20), HIGH), ((2, 30), LATE)],
    "none": [],
}
ROUND = region_of([(0, 5, 0, 4), (3, 8, 2, 7), (7, 9, 0, 1)])


class PointByPoint(unittest.TestCase):
    """Holds answers and truths against those at each point."""

    def check(self, question, region, tables=None, levels=()):
        tables = TABLES if tables is None else tables
        relation = Unchanged(self)(answer, question, tables, region, levels)
        held = region_points(region)
        for m in range(10):
            for k in range(10):
                rows = plain_answer(question, cuts_of(tables, m, k), levels) if (m, k) in held else []
                self.assertEqual(cut(relation, m, k), rows, (question, m, k))
        self.assertEqual(relation_of(relation), relation)
        return relation

    def check_truth(self, condition, levels, region, tables=None):
        tables = TABLES if tables is None else tables
        found = Unchanged(self)(truth, condition, levels, region, tables)
        points = {(m, k) for m, k in region_points(region) if value_of(condition, levels, cuts_of(tables, m, k))}
        self.assertEqual(region_points(found), points, condition)
        self.assertEqual(region_of([(m, m + 1, k, k + 1) for m, k in points]), found)
        return found

    def check_parts(self, question, region, other, tables=None, levels=()):
        tables = TABLES if tables is None else tables
        self.assertEqual(answer(question, tables, meet(region, other), levels),
                         within(answer(question, tables, region, levels), other))


class TruthTest(PointByPoint):
    def test_conditions_that_are_the_same_everywhere(self):
        for region in (ROUND, LOW, []):
            self.assertEqual(truth(("truth", True), [], region, TABLES), region)
            self.assertEqual(truth(("truth", False), [], region, TABLES), [])
            self.assertEqual(truth(("lt", cell(0, 0), number(4)), [[(3,)]], region, TABLES), region)
            self.assertEqual(truth(("lt", cell(0, 0), number(4)), ([(4,)],), region, TABLES), [])
            self.assertEqual(truth(("eq", cell(0, 1, 1), ("text", "x")), [[(3, "x")], [(4,)]], region, TABLES), region)

    def test_exists(self):
        some = ("exists", select([number(1)], ["t"], ("eq", cell(0, 1), ("text", "b"))))
        self.assertEqual(self.check_truth(some, [], ALL), HIGH)
        self.check_truth(some, [], ROUND)
        self.assertEqual(self.check_truth(("exists", select([number(1)], ["none"])), [], ALL), [])
        self.assertEqual(self.check_truth(("exists", select([number(1)], ["t"])), [], ALL), ALL)

    def test_operators(self):
        first = ("exists", select([number(1)], ["t"], ("eq", cell(0, 1), ("text", "b"))))
        second = ("exists", select([number(1)], ["t"], ("eq", cell(0, 0), number(5))))
        for region in (ALL, ROUND, LOW, []):
            self.check_truth(("not", first), [], region)
            for word in ("and", "or"):
                self.check_truth((word, first, second), [], region)
                self.check_truth((word, ("not", first), second), [], region)
                self.check_truth((word, first, ("not", second)), [], region)
                self.check_truth((word, first, ("truth", True)), [], region)
                self.check_truth((word, ("truth", False), first), [], region)

    def test_levels(self):
        same = ("exists", select([number(1)], ["s"], ("eq", cell(0, 0), cell(0, 0, 1))))
        self.assertEqual(self.check_truth(same, [[(2, "z")]], ALL), region_of([(2, 5, 2, 6), (4, 7, 1, 6)]))
        self.assertEqual(self.check_truth(same, [[(3, "z")]], ALL), [])
        self.check_truth(same, ([(1, "x")], [(2, "z")]), ROUND)
        outer = ("exists", select([number(1)], ["s"], ("eq", cell(0, 0), cell(0, 0, 2))))
        self.check_truth(outer, ([(2, "x")], [(3, "z")]), ROUND)

    def test_exists_of_each_form(self):
        one, two = select([cell(0, 0)], ["t"]), select([cell(0, 0)], ["s"])
        for word in ("union", "except", "intersect"):
            self.check_truth(("exists", (word, one, two)), [], ROUND)
            self.check_truth(("exists", (word, two, one)), [], ALL)
        grouped = select([("count",)], ["t", "s"], None, [cell(0, 0)], ("gt", ("count",), number(3)))
        self.check_truth(("exists", grouped), [], ALL)
        self.check_truth(("exists", select([("count",)], ["none"], None, [])), [], ALL)
        self.check_truth(("exists", select([("count",)], ["t"], ("gt", cell(0, 0), number(1)), [])), [], ROUND)
        self.check_truth(("exists", select([("count",)], ["t"], None, [], ("lt", ("count",), number(3)))), [], ROUND)

    def test_exists_in_exists(self):
        deep = select([number(1)], ["s"], ("and", ("eq", cell(0, 0), cell(0, 0, 1)), ("gt", cell(0, 1), cell(0, 0, 2))))
        middle = ("exists", select([number(1)], ["t"], ("exists", deep)))
        for n in (5, 10, 15, 25, 30):
            self.check_truth(middle, [[(n,)]], ALL)
        self.check_truth(("exists", select([number(1)], ["t"], ("not", ("exists", deep)))), [[(10,)]], ROUND)

    def test_long_chains(self):
        condition = ("exists", select([number(1)], ["t"], ("eq", cell(0, 1), ("text", "b"))))
        chain = condition
        for n in range(180):
            chain = ("not", chain)
        self.assertEqual(truth(chain, [], ALL, TABLES), HIGH)
        for n in range(180):
            condition = (("and", "or")[n % 2], condition, ("truth", n % 2 == 0))
        self.assertEqual(truth(condition, [], ALL, TABLES), HIGH)


class AnswerTest(PointByPoint):
    def test_items(self):
        relation = self.check(select([cell(0, 0)], ["t"]), ALL)
        self.assertEqual(relation, [((1,), region_of([(0, 4, 0, 3), (2, 5, 2, 6)])), ((2,), ALL), ((5,), LATE)])
        self.check(select([("neg", cell(0, 0)), cell(0, 1), number(7)], ["t"]), ROUND)
        self.check(select([number(1)], ["t"]), ROUND)

    def test_regions(self):
        question = select([cell(0, 1)], ["t"])
        self.assertEqual(answer(question, TABLES, []), [])
        self.assertEqual(self.check(question, region_of([(2, 3, 2, 3)])),
                         [(("a",), [(2, 3, [(2, 3)])]), (("b",), [(2, 3, [(2, 3)])])])
        self.check(question, ROUND)

    def test_several_sources(self):
        self.check(select([cell(0, 1), cell(1, 1)], ["t", "s"], ("eq", cell(0, 0), cell(1, 0))), ROUND)
        self.check(select([cell(0, 0), cell(1, 0)], ["t", "t"], ("lt", cell(0, 1), cell(1, 1))), ALL)
        self.check(select([cell(0, 0), cell(1, 0)], ["t", "s"]), ROUND)
        self.check(select([cell(0, 0)], ["t", "none"]), ALL)
        self.check(select([cell(n, 1) for n in range(3)], ["s", "s", "s"]), ROUND)

    def test_where(self):
        named = ("and", ("gt", cell(1, 1), number(5)), ("and", ("eq", cell(0, 0), number(1)), ("le", number(1), number(1))))
        self.check(select([cell(0, 1), cell(1, 1)], ["t", "s"], named), ROUND)
        self.check(select([cell(0, 1)], ["t"], ("lt", number(2), number(1))), ROUND)
        self.check(select([cell(0, 1)], ["t"], ("truth", False)), ROUND)
        self.check(select([cell(0, 1)], ["t"], ("truth", True)), ROUND)

    def test_exists_in_where(self):
        inner = ("exists", select([number(1)], ["s"], ("eq", cell(0, 0), cell(0, 0, 1))))
        alone = ("exists", select([number(1)], ["s"], ("eq", cell(0, 1), number(30))))
        for where in (inner, ("not", inner), alone, ("and", alone, inner), ("or", ("not", alone), inner),
                      ("or", ("eq", cell(0, 1), ("text", "b")), inner)):
            self.check(select([cell(0, 0), cell(0, 1)], ["t"], where), ROUND)
            self.check(select([cell(0, 0), cell(1, 1)], ["t", "s"], where), ALL)

    def test_levels(self):
        question = select([cell(0, 1), cell(0, 0, 1)], ["s"], ("eq", cell(0, 0), cell(0, 0, 2)))
        for levels in ([[(2,)], [(7, "x")]], ([(2,)], [(7, "x")]), [[(1,)], [(8,)]]):
            self.check(question, ROUND, None, levels)
        self.assertEqual(answer(select([cell(0, 0)], ["s"]), TABLES, LOW),
                         answer(select([cell(0, 0)], ["s"]), TABLES, LOW, ()))
        both = ("union", select([cell(0, 0, 1)], ["s"]), select([("neg", cell(0, 0, 1))], ["t"]))
        self.check(both, ROUND, None, ([(4,)],))

    def test_sets(self):
        one, two = select([cell(0, 0)], ["t"]), select([cell(0, 0)], ["s"])
        for word in ("union", "except", "intersect"):
            for left, right in ((one, two), (two, one), (one, one), (one, select([cell(0, 1)], ["none"]))):
                self.check((word, left, right), ROUND)
            self.check((word, ("union", one, two), ("except", two, one)), ALL)

    def test_groups(self):
        gatherings = [("count",), ("sum", cell(0, 0)), ("least", cell(0, 1)), ("greatest", cell(0, 1))]
        self.check(select(gatherings, ["t"], None, []), ROUND)
        self.check(select([cell(0, 0)] + gatherings, ["t"], None, [cell(0, 0)]), ALL)
        self.check(select([cell(0, 1), ("count",)], ["t"], ("gt", cell(0, 0), number(1)), [cell(0, 1), cell(0, 0)]), ROUND)
        self.check(select([cell(0, 0)], ["t"], None, [cell(0, 0)]), ROUND)
        self.check(select([number(3)], ["t"], None, []), ROUND)
        self.check(select([("count",)], ["none"], None, []), ROUND)
        self.check(select([("count",), ("sum", cell(1, 1))], ["t", "s"], ("eq", cell(0, 0), cell(1, 0)), []), ROUND)
        self.check(select([("add", ("sum", ("mul", cell(0, 0), number(2))), ("neg", ("count",)))], ["t"], None, []), ALL)

    def test_groups_of_equal_values_are_united(self):
        relation = self.check(select([("greatest", cell(0, 0))], ["t"], ("le", cell(0, 0), number(2)), []), ALL)
        self.assertEqual(relation, [((2,), ALL)])
        self.assertEqual(self.check(select([("count",)], ["s"], None, []), [(0, 1, [(0, 9)])]), [((1,), [(0, 1, [(0, 9)])])])

    def test_having(self):
        more = ("gt", ("count",), number(1))
        for having in (more, ("not", more), ("and", more, ("lt", ("sum", cell(0, 0)), number(8))), ("truth", False),
                       ("truth", True), ("eq", ("least", cell(0, 1)), ("text", "a"))):
            self.check(select([("count",)], ["t"], None, [], having), ROUND)
            self.check(select([cell(0, 0), ("least", cell(0, 1))], ["t"], None, [cell(0, 0)], having), ALL)
            self.check(select([number(1)], ["t", "s"], ("eq", cell(0, 0), cell(1, 0)), [], having), ROUND)

    def test_gatherings_with_levels_and_exists(self):
        inner = select([("count",)], ["s"], ("eq", cell(0, 0), cell(0, 0, 1)), [],
                       ("gt", ("sum", ("mul", cell(0, 1), cell(0, 0, 1))), number(10)))
        self.check(select([cell(0, 0)], ["t"], ("exists", inner)), ROUND)
        self.check(select([cell(0, 0), ("count",)], ["t"], ("exists", inner), [cell(0, 0)]), ALL)
        self.check(select([("least", ("add", cell(0, 0), cell(0, 0, 1)))], ["s"], None, []), ROUND, None, [[(8,)]])

    def test_parts_of_regions(self):
        questions = [
            select([cell(0, 0)], ["t"]),
            select([("count",), ("sum", cell(0, 0))], ["t"], None, []),
            ("except", select([cell(0, 0)], ["t"]), select([cell(0, 0)], ["s"])),
            select([cell(0, 1)], ["t"], ("exists", select([number(1)], ["s"], ("eq", cell(0, 0), cell(0, 0, 1))))),
        ]
        for question in questions:
            for part in (LOW, HIGH, LATE, [], ALL, region_of([(3, 4, 2, 3)])):
                self.check_parts(question, ROUND, part)


class RandomAnswersTest(PointByPoint):
    def tables(self, source):
        return {"t": random_relation(source, ROWS["t"], MOST), "s": random_relation(source, ROWS["s"], MOST), "none": []}

    def test_random_questions(self):
        source = random.Random(31)
        maker = MeaningMaker(source, KINDS)
        for _ in range(600):
            outer = [[source.choice(["t", "s"])] for _ in range(source.randrange(3))]
            levels = [[source.choice(ROWS[name]) for name in names] for names in outer]
            question = maker.question(maker.kinds(), outer, 3)
            tables, region = self.tables(source), random_region(source, MOST)
            self.check(question, region, tables, source.choice([levels, tuple(levels)]))
            self.check_parts(question, region, random_region(source, MOST), tables, levels)

    def test_random_conditions(self):
        source = random.Random(32)
        maker = MeaningMaker(source, KINDS)
        for _ in range(1200):
            outer = [[source.choice(["t", "s"])] for _ in range(source.randrange(1, 3))]
            levels = [[source.choice(ROWS[name]) for name in names] for names in outer]
            self.check_truth(maker.condition(outer, 3), levels, random_region(source, MOST), self.tables(source))


class FarTest(unittest.TestCase):
    """Spans as long as all moments, and beyond the bounds of statements."""

    def test_long_spans(self):
        far = [(0, 10 ** 6, [(0, 10 ** 6)])]
        tables = {"t": [((1, 5), far), ((2, 7), [(3, 10 ** 6, [(4, 10 ** 6)])])]}
        count = select([("count",), ("sum", cell(0, 1))], ["t"], None, [])
        self.assertEqual(answer(count, tables, far), [
            ((1, 5), region_of([(0, 10 ** 6, 0, 3), (0, 4, 3, 10 ** 6)])),
            ((2, 12), region_of([(4, 10 ** 6, 3, 10 ** 6)])),
        ])
        beyond = [(0, 10 ** 30, [(0, 10 ** 30)])]
        self.assertEqual(answer(select([cell(0, 0)], ["t"]), {"t": [((1, 5), beyond)]}, beyond), [((1,), beyond)])
        self.assertEqual(truth(("exists", count), [], beyond, {"t": [((1, 5), far)]}), far)

    def test_more_choices_than_can_be_gone_through(self):
        far = [(0, 10 ** 6, [(0, 10 ** 6)])]
        tables = {"t": [((n,), far) for n in range(60)]}
        pairs = select([number(1)], ["t"] * 4, ("le", cell(3, 0), cell(0, 0, 1)))
        self.assertEqual(answer(select([cell(0, 0)], ["t"], ("exists", pairs)), tables, far), tables["t"])
        same = [("eq", ("add", cell(n, 0), number(1)), cell(n + 1, 0)) for n in range(4)]
        where = ("and", ("and", same[3], same[2]), ("and", same[1], same[0]))
        self.assertEqual(answer(select([cell(0, 0), cell(4, 0)], ["t"] * 5, where), tables, far),
                         [((n, n + 4), far) for n in range(56)])
        deep = select([number(1)], ["t"], ("ge", cell(0, 0), cell(0, 0, 1)))
        for _ in range(15):
            deep = select([number(1)], ["t"], ("exists", deep))
        self.assertEqual(truth(("exists", deep), [[(3,)]], far, tables), far)

    def test_many_rows(self):
        source = random.Random(33)
        rows = []
        for n in range(60):
            a, j = source.randrange(9 * 10 ** 5), source.randrange(900)
            rows.append(((n, n % 7), region_of([(a, a + 10 ** 5, j, 10 ** 6), (a // 2, a, j + 5, j + 50)])))
        tables = {"t": rows}
        everything = [(0, 10 ** 6, [(0, 10 ** 6)])]
        started = time.perf_counter()
        pairs = answer(select([cell(0, 0), cell(1, 0)], ["t", "t"], ("eq", cell(0, 1), cell(1, 1))), tables, everything)
        counts = answer(select([("count",), ("sum", cell(0, 0))], ["t"], None, []), tables, everything)
        other = ("exists", select([number(1)], ["t"], ("and", ("eq", cell(0, 1), cell(0, 1, 1)),
                                                       ("ne", cell(0, 0), cell(0, 0, 1)))))
        alone = answer(select([cell(0, 0)], ["t"], ("not", other)), tables, everything)
        self.assertLess(time.perf_counter() - started, 30)
        for m, k in [(source.randrange(10 ** 6), source.randrange(1000)) for _ in range(20)]:
            here = cut(rows, m, k)
            self.assertEqual(cut(counts, m, k), [(len(here), sum([row[0] for row in here]))] if here else [])
            self.assertEqual(cut(pairs, m, k), sorted([(x[0], y[0]) for x in here for y in here if x[1] == y[1]]))
            self.assertEqual(cut(alone, m, k), [(x[0],) for x in here if [y[1] for y in here].count(x[1]) == 1])


if __name__ == "__main__":
    unittest.main()
