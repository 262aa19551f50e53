import random
import time
import unittest

from helpers import MeaningMaker, Unchanged
from pastamended.plain_answers import value_of
from pastamended.plain_changes import plain_change
from pastamended.values import MOST

TABLES = {
    "t": [(1, "a"), (1, "b"), (2, "a"), (5, "c")],
    "s": [(1, 10), (2, 20), (2, 30)],
    "none": [],
}
KINDS = {"t": ["number", "text"], "s": ["number", "number"], "none": ["text", "number"]}


def number(n):
    return ("number", n)


def cell(column, up=0):
    return ("cell", up, 0, column)


def exists(table, where):
    return ("exists", ("select", [number(1)], [table], where, None, None))


class PlainChangeTest(unittest.TestCase):
    def check(self, statement, rows):
        for span in ((0, 1), (3, 10 ** 6)):
            self.assertEqual(Unchanged(self)(plain_change, statement + (span,), TABLES), rows)

    def test_insert(self):
        self.check(("insert", "t", [(3, "z")]), [(1, "a"), (1, "b"), (2, "a"), (3, "z"), (5, "c")])
        self.check(("insert", "none", [("b", 1), ("a", 2)]), [("a", 2), ("b", 1)])
        self.check(("insert", "t", [(0, "z"), (9, "")]), [(0, "z"), (1, "a"), (1, "b"), (2, "a"), (5, "c"), (9, "")])

    def test_insert_of_rows_that_are_there(self):
        self.check(("insert", "t", [(1, "b")]), TABLES["t"])
        self.check(("insert", "s", [(2, 30), (2, 25), (2, 30), (2, 25)]), [(1, 10), (2, 20), (2, 25), (2, 30)])

    def test_delete(self):
        self.check(("delete", "t", None), [])
        self.check(("delete", "none", None), [])
        self.check(("delete", "t", ("eq", cell(0), number(1))), [(2, "a"), (5, "c")])
        self.check(("delete", "t", ("eq", cell(1), ("text", "a"))), [(1, "b"), (5, "c")])
        self.check(("delete", "t", ("truth", False)), TABLES["t"])
        self.check(("delete", "t", ("truth", True)), [])

    def test_update(self):
        self.check(("update", "s", [(1, ("add", cell(1), number(1)))], None), [(1, 11), (2, 21), (2, 31)])
        self.check(("update", "t", [(1, ("text", "z"))], ("eq", cell(0), number(1))), [(1, "z"), (2, "a"), (5, "c")])
        self.check(("update", "t", [(0, number(7))], ("truth", False)), TABLES["t"])
        self.check(("update", "none", [(0, ("text", "x"))], None), [])
        self.check(("update", "s", [(1, number(MOST)), (0, ("add", number(MOST), cell(0)))], ("eq", cell(0), number(1))),
                   [(-MOST, MOST), (2, 20), (2, 30)])

    def test_update_computes_all_values_first(self):
        self.check(("update", "s", [(0, cell(1)), (1, cell(0))], None), [(10, 1), (20, 2), (30, 2)])
        self.check(("update", "s", [(0, ("add", cell(0), number(1)))], None), [(2, 10), (3, 20), (3, 30)])

    def test_update_to_rows_that_are_there(self):
        self.check(("update", "s", [(1, number(20))], None), [(1, 20), (2, 20)])
        self.check(("update", "t", [(1, ("text", "b"))], ("eq", cell(0), number(1))), [(1, "b"), (2, "a"), (5, "c")])
        self.check(("update", "t", [(0, number(1))], ("eq", cell(0), number(2))), [(1, "a"), (1, "b"), (5, "c")])
        self.check(("update", "t", [(0, cell(0))], None), TABLES["t"])
        # A row may leave a place that another one takes.
        self.check(("update", "s", [(1, ("add", cell(1), number(10)))], ("eq", cell(0), number(2))),
                   [(1, 10), (2, 30), (2, 40)])

    def test_exists_over_the_same_table(self):
        greater = exists("s", ("and", ("eq", cell(0), cell(0, 1)), ("gt", cell(1), cell(1, 1))))
        self.check(("delete", "s", greater), [(1, 10), (2, 30)])
        self.check(("delete", "s", ("not", greater)), [(2, 20)])
        self.check(("update", "s", [(1, number(0))], greater), [(1, 10), (2, 0), (2, 30)])
        other = exists("t", ("and", ("eq", cell(0), cell(0, 1)), ("ne", cell(1), cell(1, 1))))
        self.check(("delete", "t", other), [(2, "a"), (5, "c")])
        self.check(("update", "t", [(0, number(8))], other), [(2, "a"), (5, "c"), (8, "a"), (8, "b")])

    def test_exists_over_another_table(self):
        named = exists("s", ("eq", cell(0), cell(0, 1)))
        self.check(("delete", "t", named), [(5, "c")])
        self.check(("update", "t", [(1, ("text", ""))], named), [(1, ""), (2, ""), (5, "c")])
        self.check(("delete", "t", exists("none", None)), TABLES["t"])

    def test_random_changes(self):
        source = random.Random(41)
        maker = MeaningMaker(source, KINDS)
        for _ in range(1000):
            table = source.choice(["t", "s"])
            where = source.choice([None, maker.condition([[table]], 3)])
            sets = [(column, maker.value(KINDS[table][column], [[table]], 2))
                    for column in source.sample([0, 1], source.randrange(1, 3))]
            meant = [row for row in TABLES[table] if where is None or value_of(where, [[row]], TABLES)]
            kept = set(TABLES[table]) - set(meant)
            changed = [tuple([value_of(dict(sets)[at], [[row]], TABLES) if at in dict(sets) else row[at]
                              for at in range(2)]) for row in meant]
            self.check(("delete", table, where), sorted(kept))
            self.check(("update", table, sets, where), sorted(kept | set(changed)))

    def test_sixty_rows(self):
        rows = [(n, n % 7, n % 5, n * n % 11, "x" * (n % 3)) for n in range(60)]
        tables = {"t": rows, "s": rows}
        pair = ("exists", ("select", [number(1)], ["t", "s"], ("and", ("eq", ("cell", 0, 0, 1), ("cell", 1, 0, 1)), (
            "and", ("eq", ("cell", 0, 1, 2), ("cell", 0, 0, 2)), ("gt", ("cell", 0, 1, 0), ("cell", 1, 0, 0)))), None, None))
        started = time.perf_counter()
        found = plain_change(("delete", "t", pair, (0, 1)), tables)
        added = plain_change(("update", "t", [(0, ("add", cell(0), number(100)))], pair, (0, 1)), tables)
        self.assertLess(time.perf_counter() - started, 20)
        expected = [x for x in rows if not any([y[1] == x[1] and z[2] == y[2] and z[0] > x[0] for y in rows for z in rows])]
        self.assertEqual(found, expected)
        self.assertEqual(added, expected + sorted([(x[0] + 100,) + x[1:] for x in rows if x not in expected]))


if __name__ == "__main__":
    unittest.main()
