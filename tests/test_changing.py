import random
import time
import unittest

from helpers import MeaningMaker, Unchanged, integers_of, number
from pastamended.changing import change
from pastamended.plain_changes import plain_change
from pastamended.relations import relation_of
from pastamended.spans import spans_of
from pastamended.values import END, OPEN

KINDS = {"t": ["number", "text"], "s": ["number", "number"], "none": ["text", "number"]}
ROWS = {"t": [(1, "a"), (1, "b"), (2, "a"), (5, "c")], "s": [(1, 10), (2, 20), (2, 30)], "none": []}
KNOWN = 4
# Facts before the pending rows, which must not matter.
OLD = [(0, 5, [(0, 12)])]


def cell(column, up=0):
    return ("cell", up, 0, column)


def exists(table, where):
    return ("exists", ("select", [number(1)], [table], where, None, None))


def pending(spans, known=KNOWN):
    return [(known + 1, OPEN, spans)] if spans else []


def relation(rows, known=KNOWN):
    """The transaction's relation in which these rows are pending; a dict from rows to spans."""
    return [(row, pending(rows[row], known)) for row in sorted(rows) if rows[row]]


TABLES = {
    "t": relation({(1, "a"): [(0, END)], (1, "b"): [(3, 8)], (2, "a"): [(2, 4), (6, 9)]}),
    "s": relation({(1, 10): [(0, 5)], (2, 20): [(3, END)]}),
    "none": [],
}


class ChangingTest(unittest.TestCase):
    def check(self, statement, rows, count, tables=None, known=KNOWN):
        found = Unchanged(self)(change, statement, TABLES if tables is None else tables, known)
        self.assertEqual(found, ([(row, rows[row]) for row in sorted(rows)], count))

    def test_insert(self):
        others = {(1, "a"): [(0, END)], (1, "b"): [(3, 8)], (2, "a"): [(2, 4), (6, 9)]}
        self.check(("insert", "t", [(7, "x")], (5, 6)), {**others, (7, "x"): [(5, 6)]}, 1)
        self.check(("insert", "t", [(0, "x"), (9, "y"), (0, "x")], (0, END)),
                   {**others, (0, "x"): [(0, END)], (9, "y"): [(0, END)]}, 2 * END)
        self.check(("insert", "none", [("a", 1)], (END - 1, END)), {("a", 1): [(END - 1, END)]}, 1)

    def test_insert_of_rows_that_are_there(self):
        others = {(1, "a"): [(0, END)], (1, "b"): [(3, 8)], (2, "a"): [(2, 4), (6, 9)]}
        self.check(("insert", "t", [(1, "a")], (5, 9)), others, 0)
        self.check(("insert", "t", [(1, "b"), (1, "b")], (6, 10)), {**others, (1, "b"): [(3, 10)]}, 2)
        self.check(("insert", "t", [(2, "a")], (4, 6)), {**others, (2, "a"): [(2, 9)]}, 2)
        self.check(("insert", "t", [(2, "a"), (1, "b")], (0, END)), {row: [(0, END)] for row in others},
                   END - 5 + END - 5)

    def test_delete(self):
        others = {(1, "a"): [(0, END)], (1, "b"): [(3, 8)], (2, "a"): [(2, 4), (6, 9)]}
        self.check(("delete", "t", None, (0, END)), {}, END + 5 + 5)
        self.check(("delete", "t", None, (3, 7)),
                   {(1, "a"): [(0, 3), (7, END)], (1, "b"): [(7, 8)], (2, "a"): [(2, 3), (7, 9)]}, 4 + 4 + 2)
        self.check(("delete", "t", ("eq", cell(1), ("text", "b")), (3, 8)),
                   {row: others[row] for row in others if row != (1, "b")}, 5)
        self.check(("delete", "t", ("eq", cell(1), ("text", "a")), (8, 9)),
                   {**others, (1, "a"): [(0, 8), (9, END)], (2, "a"): [(2, 4), (6, 8)]}, 2)
        self.check(("delete", "t", ("eq", cell(0), number(7)), (0, END)), others, 0)
        self.check(("delete", "t", ("eq", cell(0), number(2)), (4, 6)), others, 0)
        self.check(("delete", "none", None, (0, END)), {}, 0)

    def test_update(self):
        more = [(1, ("add", cell(1), number(1)))]
        self.check(("update", "s", more, None, (4, 6)),
                   {(1, 10): [(0, 4)], (1, 11): [(4, 5)], (2, 20): [(3, 4), (6, END)], (2, 21): [(4, 6)]}, 2 + 4)
        self.check(("update", "s", more, None, (0, END)), {(1, 11): [(0, 5)], (2, 21): [(3, END)]}, 2 * (5 + END - 3))
        self.check(("update", "s", more, ("eq", cell(0), number(1)), (END - 1, END)), {(1, 10): [(0, 5)], (2, 20): [(3, END)]}, 0)
        self.check(("update", "s", more, ("eq", cell(0), number(2)), (END - 1, END)),
                   {(1, 10): [(0, 5)], (2, 20): [(3, END - 1)], (2, 21): [(END - 1, END)]}, 2)

    def test_update_to_rows_that_are_there(self):
        self.check(("update", "s", [(0, number(2)), (1, number(20))], None, (0, END)), {(2, 20): [(0, END)]}, 5 + 3)
        self.check(("update", "t", [(1, ("text", "b"))], ("eq", cell(0), number(1)), (0, 5)),
                   {(1, "a"): [(5, END)], (1, "b"): [(0, 8)], (2, "a"): [(2, 4), (6, 9)]}, 5 + 3)
        self.check(("update", "t", [(1, cell(1))], None, (0, END)), {
            (1, "a"): [(0, END)], (1, "b"): [(3, 8)], (2, "a"): [(2, 4), (6, 9)]}, 0)
        # Each of the two rows becomes the other one.
        tables = {"s": relation({(1, 2): [(0, 9)], (2, 1): [(4, 12)]})}
        self.check(("update", "s", [(0, cell(1)), (1, cell(0))], None, (0, 10)), {(1, 2): [(4, 10)], (2, 1): [(0, 9), (10, 12)]},
                   4 + 1 + 4 + 1, tables)

    def test_exists(self):
        same = exists("s", ("eq", cell(0), cell(0, 1)))
        self.check(("delete", "t", same, (0, END)),
                   {(1, "a"): [(5, END)], (1, "b"): [(5, 8)], (2, "a"): [(2, 3)]}, 5 + 2 + 1 + 3)
        self.check(("delete", "t", ("not", same), (4, 8)),
                   {(1, "a"): [(0, 5), (8, END)], (1, "b"): [(3, 5)], (2, "a"): [(2, 4), (6, 9)]}, 3 + 3)
        self.check(("delete", "t", exists("none", None), (0, END)), {row: region[0][2] for row, region in TABLES["t"]}, 0)
        self.check(("update", "s", [(1, number(0))], exists("t", ("eq", cell(1), ("text", "b"))), (0, END)),
                   {(1, 0): [(3, 5)], (1, 10): [(0, 3)], (2, 0): [(3, 8)], (2, 20): [(8, END)]}, 2 * (2 + 5))

    def test_exists_over_the_same_table(self):
        other = exists("t", ("and", ("eq", cell(1), cell(1, 1)), ("gt", cell(0), cell(0, 1))))
        self.check(("delete", "t", other, (0, END)),
                   {(1, "a"): [(0, 2), (4, 6), (9, END)], (1, "b"): [(3, 8)], (2, "a"): [(2, 4), (6, 9)]}, 5)
        self.check(("update", "t", [(0, number(2))], other, (3, END)),
                   {(1, "a"): [(0, 3), (4, 6), (9, END)], (1, "b"): [(3, 8)], (2, "a"): [(2, 4), (6, 9)]}, 4)

    def test_facts_at_other_known_numbers_do_not_matter(self):
        tables = {"t": [((1, "a"), [(0, KNOWN + 1, [(0, 9)])]), ((1, "b"), [(0, 2, [(0, 9)]), (KNOWN + 1, OPEN, [(3, 8)])])],
                  "s": [((1, 10), [(0, KNOWN + 1, [(0, 9)])])]}
        self.check(("delete", "t", None, (4, 6)), {(1, "b"): [(3, 4), (6, 8)]}, 2, tables)
        self.check(("delete", "t", exists("s", None), (0, END)), {(1, "b"): [(3, 8)]}, 0, tables)
        self.check(("insert", "t", [(1, "a")], (0, 2)), {(1, "a"): [(0, 2)], (1, "b"): [(3, 8)]}, 2, tables)

    def test_first_transaction(self):
        tables = {"t": [((1, "a"), [(1, OPEN, [(0, 9)])])]}
        self.check(("delete", "t", None, (4, END)), {(1, "a"): [(0, 4)]}, 5, tables, 0)

    def test_random_changes(self):
        source = random.Random(61)
        maker = MeaningMaker(source, KINDS)
        for _ in range(400):
            plain = {name: self.random_rows(source, name) for name in ROWS}
            tables = {name: relation_of([(row, OLD) for row in ROWS[name] if source.random() < 0.3] + relation(plain[name]))
                      for name in plain}
            table = source.choice(["t", "s"])
            a, b = sorted(source.sample(range(11), 2))
            where = source.choice([None, maker.condition([[table]], 3)])
            sets = [(column, maker.value(KINDS[table][column], [[table]], 2))
                    for column in source.sample([0, 1], source.randrange(1, 3))]
            rows = source.choices(ROWS[table] + [(3, "a" if table == "t" else 10)], k=2)
            for statement in (("insert", table, rows, (a, b)), ("delete", table, where, (a, b)),
                              ("update", table, sets, where, (a, b))):
                self.check_moments(statement, plain, tables, (a, b))

    def random_rows(self, source, name):
        rows = {row: spans_of([sorted(source.sample(range(12), 2)) for _ in range(source.randrange(3))]) for row in ROWS[name]}
        return {row: rows[row] for row in rows if rows[row]}

    def check_moments(self, statement, plain, tables, span):
        pairs, count = Unchanged(self)(change, statement, tables, KNOWN)
        self.assertEqual(pairs, sorted(pairs))
        self.assertNotIn([], [spans for _, spans in pairs])
        old = plain[statement[1]]
        for _, spans in pairs:
            self.assertEqual(spans_of(spans), spans)
        for m in range(13):
            now = {name: sorted([row for row in plain[name] if m in integers_of(plain[name][row])]) for name in plain}
            expected = plain_change(statement, now) if span[0] <= m < span[1] else now[statement[1]]
            found = [row for row, spans in pairs if m in integers_of(spans)]
            self.assertEqual(found, expected, (statement, m))
            count -= len(set(found) ^ {row for row in old if m in integers_of(old[row])})
        self.assertEqual(count, 0)

    def test_sixty_rows(self):
        rows = [(n, n % 7, n % 5, n * n % 11, "x" * (n % 3)) for n in range(60)]
        spans = {row: [(row[0] * 1000, row[0] * 1000 + 20000), (row[0] * 1000 + 50000, END)] for row in rows}
        tables = {"t": relation(spans), "s": relation(spans)}
        pair = ("exists", ("select", [number(1)], ["t", "s"], ("and", ("eq", ("cell", 0, 0, 1), ("cell", 1, 0, 1)), (
            "and", ("eq", ("cell", 0, 1, 2), ("cell", 0, 0, 2)), ("gt", ("cell", 0, 1, 0), ("cell", 1, 0, 0)))), None, None))
        started = time.perf_counter()
        deleted, _ = change(("delete", "t", pair, (0, END)), tables, KNOWN)
        updated, _ = change(("update", "t", [(0, ("add", cell(0), number(100)))], pair, (5, 90000)), tables, KNOWN)
        self.assertLess(time.perf_counter() - started, 30)
        for m in (0, 1000, 19999, 20000, 30500, 55000, 90000, END - 1):
            now = {"t": [row for row in rows if m in range(*spans[row][0]) or m in range(*spans[row][1])]}
            now["s"] = now["t"]
            holds = [row for row, found in deleted if region_holds(found, m)]
            self.assertEqual(holds, plain_change(("delete", "t", pair, (0, END)), now), m)
            changed = plain_change(("update", "t", [(0, ("add", cell(0), number(100)))], pair, (0, 1)), now)
            holds = [row for row, found in updated if region_holds(found, m)]
            self.assertEqual(holds, changed if 5 <= m < 90000 else now["t"], m)


def region_holds(spans, m):
    return any([a <= m < b for a, b in spans])


if __name__ == "__main__":
    unittest.main()
