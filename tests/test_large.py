"""Large tables and many commits, within seconds."""

import copy
import random
import time
import unittest

from helpers import cell, number, select
from model import do
from pastamended.answers import answer
from pastamended.database import Database
from pastamended.disk import Disk
from pastamended.errors import PowerLost
from pastamended.plain_answers import plain_answer
from pastamended.plans import planned_answer
from pastamended.regions import at_known, region_of
from pastamended.relations import cut
from pastamended.reports import difference, history
from pastamended.store import Store

EVERYTHING = [(0, 10 ** 6, [(0, 10 ** 6)])]
SECONDS = 20


def random_table(source, count, columns, rectangles):
    """A relation whose rows stand at many spans and known numbers; the first column is a key, the last one a text."""
    found = []
    for n in range(count):
        row = (n,) + tuple([source.randrange(5) for _ in range(columns - 2)]) + (f"text {source.randrange(4)}",)
        parts = []
        for _ in range(rectangles):
            a, j = source.randrange(9 * 10 ** 5), source.randrange(60)
            parts.append((a, min(10 ** 6, a + source.randrange(1, 5 * 10 ** 5)), j,
                          source.choice([10 ** 6, j + source.randrange(1, 30)])))
        found.append((row, region_of(parts)))
    return found


class LargeTablesTest(unittest.TestCase):
    def setUp(self):
        self.source = random.Random(99)
        self.tables = {"t": random_table(self.source, 60, 5, 4), "s": random_table(self.source, 6, 3, 3)}
        self.started = time.perf_counter()

    def tearDown(self):
        self.assertLess(time.perf_counter() - self.started, SECONDS)

    def check(self, question, points=12):
        found = answer(question, self.tables, EVERYTHING)
        for orders in ([], [1], [0, 3]):
            self.assertEqual(planned_answer(question, self.tables, EVERYTHING, orders), found)
        for _ in range(points):
            m, k = self.source.randrange(10 ** 6), self.source.randrange(80)
            here = {name: cut(self.tables[name], m, k) for name in self.tables}
            self.assertEqual(cut(found, m, k), plain_answer(question, here))
        return found

    def test_one_table(self):
        self.assertEqual(len(self.check(select([cell(0, 0), cell(0, 4)], ["t"]))), 60)
        self.check(select([cell(0, n) for n in range(5)], ["t"], ("gt", cell(0, 1), cell(0, 2))))

    def test_joins(self):
        self.check(select([cell(0, 0), cell(1, 0)], ["t", "s"], ("eq", cell(0, 1), cell(1, 1))))
        self.check(select([cell(0, 0), cell(1, 0)], ["t", "s"]))
        self.check(select([cell(0, 0), cell(1, 0)], ["t", "t"], ("eq", ("add", cell(0, 0), number(1)), cell(1, 0))))

    def test_groups(self):
        gatherings = [("count",), ("sum", cell(0, 0)), ("least", cell(0, 4)), ("greatest", cell(0, 2))]
        self.check(select(gatherings, ["t"], None, []))
        self.check(select([cell(0, 1)] + gatherings, ["t"], None, [cell(0, 1)]))
        self.check(select([cell(0, 4), cell(0, 1)] + gatherings, ["t"], None, [cell(0, 1), cell(0, 4)]))

    def test_groups_of_joins(self):
        gatherings = [("count",), ("sum", ("mul", cell(0, 0), cell(1, 1))), ("least", cell(1, 2))]
        self.check(select(gatherings, ["t", "s"], None, []))
        self.check(select([cell(1, 0)] + gatherings, ["t", "s"], ("eq", cell(0, 1), cell(1, 1)), [cell(1, 0)]))
        self.check(select(gatherings, ["t", "s"], ("le", cell(0, 1), cell(1, 1)), [], ("gt", ("count",), number(9))))

    def test_exists(self):
        other = select([number(1)], ["t"], ("and", ("eq", cell(0, 1), cell(0, 1, 1)), ("lt", cell(0, 0), cell(0, 0, 1))))
        self.check(select([cell(0, 0)], ["t"], ("not", ("exists", other))))
        self.check(("except", select([cell(0, 4)], ["t"]), select([cell(0, 2)], ["s"])))


class ManyCommitsTest(unittest.TestCase):
    def test_many_commits(self):
        started = time.perf_counter()
        store = Store()
        transaction = store.begin()
        do(transaction, "table t (a number, n number) key (a) require n >= 0 most 100000 whole")
        store.commit(transaction)
        for n in range(250):
            do(transaction, f"insert t ({n}, {n}) from {n} to {n + 100000}")
            do(transaction, f"update t set n = n + 1 where a = {n // 2} from {n + 10} to {n + 20}")
            self.assertEqual(store.commit(transaction), n + 2)
        late = store.begin()
        found = do(transaction, "select count, sum(n) from t known 0 to 251")[1]
        self.assertEqual(cut(found, 300, 250), [(249, sum(range(249)))])
        self.assertEqual(cut(found, 50, 20), [(19, sum(range(19)))])
        self.assertEqual(late.relations(), store.relations())
        self.assertLess(time.perf_counter() - started, SECONDS)


class LargeDatabaseTest(unittest.TestCase):
    def setUp(self):
        self.started = time.perf_counter()
        self.disk = Disk(6000)
        self.database = Database(self.disk)

    def tearDown(self):
        self.assertLess(time.perf_counter() - self.started, SECONDS)

    def committed(self, *texts):
        for text in texts:
            self.database.execute(text)
        return self.database.commit()

    def test_many_commits(self):
        self.committed("table t (a number, n number, x text) key (a) require n >= 0 most 1000")
        for n in range(250):
            self.committed(f'insert t ({n}, {n}, "some text") from {n} to {n + 100000}',
                           f"update t set n = n + 1 where a = {n // 2} from {n + 10} to {n + 20}")
            if n % 100 == 50:
                self.database.checkpoint()
        expected = self.database.store.relations()
        for _ in range(2):
            self.assertEqual(Database(self.disk).store.relations(), expected)
            self.database.checkpoint()
        self.assertEqual(history(self.database, "t", [124])[-5:], [
            (251, 10 ** 6, 124, 258, (124, 124, "some text")), (251, 10 ** 6, 258, 259, (124, 125, "some text")),
            (251, 10 ** 6, 259, 268, (124, 126, "some text")), (251, 10 ** 6, 268, 269, (124, 125, "some text")),
            (251, 10 ** 6, 269, 100124, (124, 124, "some text"))])
        # The commit 101 made the row 99; at the last moments the eight rows before it are gone one by one.
        expected = []
        for n in range(1, 8):
            expected += [((n,), "came", [(100099 - n, 100100 - n)]), ((n,), "went", [(100098 - n, 100099 - n)])]
        expected += [((8,), "came", [(100091, 100092)]), ((8,), "went", [(99, 100091)]), ((9,), "came", [(99, 100091)])]
        self.assertEqual(difference(self.database, "select count from t where a > 90", 100, 101), expected)

    def test_questions_of_many_rows(self):
        source = random.Random(7)
        self.committed("table t (a number, b number, c number, d number, x text) key (a)",
                       "table s (b number, y text) key (b)", 'insert s (0, "p"), (1, "q"), (2, "r") always')
        for n in range(60):
            values = ", ".join([str(source.randrange(5)) for _ in range(3)])
            self.committed(f'insert t ({n}, {values}, "text {n % 4}") from {source.randrange(10 ** 5)}',
                           f"update t set b = b + 1 where a = {source.randrange(60)} from {source.randrange(10 ** 5)}")
        known = self.database.store.known
        for text in ("select a, y from t, s where t.b = s.b", "select t.b, count, sum (a), least (x) from t, s group t.b",
                     "select a from t where not exists (select 1 from t as u where u.b = t.b and u.a < t.a)",
                     "select x from t where c > 2 union select y from s except select x from t where d = 0"):
            whole = self.database.execute(f"{text} known 0 to {known + 1}")[1]
            for _ in range(5):
                m, k = source.randrange(10 ** 5), source.randrange(known + 1)
                here = self.database.execute(f"{text} at {m} known {k}")[1]
                self.assertEqual(cut(whole, m, k), [row for row, _ in here])
            self.assertEqual(difference(self.database, text, known, 0), [
                (row, "went", spans) for row, spans in [(row, at_known(region, known)) for row, region in whole] if spans])

    def test_losses_in_a_long_record(self):
        self.committed("table t (a number)")
        for n in range(60):
            self.database.execute(f"insert t ({n}) at {n}")
        self.disk.fall_after(30)
        self.assertRaises(PowerLost, self.database.commit)
        waiting = self.disk.waiting()
        self.assertEqual(waiting, 30)
        for choice in (0, 2 ** waiting - 1, 0x15555555, 2 ** 29):
            other = copy.deepcopy(self.disk)
            other.restart(choice)
            self.assertEqual(Database(other).store.known, 1)


if __name__ == "__main__":
    unittest.main()
