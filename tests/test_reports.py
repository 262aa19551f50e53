import random
import unittest

from helpers import integers_of
from model import LAST, MOMENTS, ModelStore, TextMaker, meaning_of, outcome
from pastamended.database import Database
from pastamended.disk import Disk
from pastamended.errors import StatementError, SyntaxFault, UnknownName
from pastamended.plain_answers import plain_answer
from pastamended.regions import rectangles_of
from pastamended.reports import difference, history
from pastamended.values import END, OPEN

STAFF = "table staff (name text, pay number) key (name)"


class ReportsTest(unittest.TestCase):
    def setUp(self):
        self.database = Database(Disk(1000))

    def committed(self, *texts):
        for text in texts:
            self.database.execute(text)
        return self.database.commit()

    def state(self):
        store, own = self.database.store, self.database.transaction
        blocks = [self.database.journal.disk.block(index) for index in range(1000)]
        return (store.known, store.schemas(), store.relations(), own.known, own.relations(), blocks)

    def reported(self, function, *arguments):
        """What the report is; it changes nothing."""
        before = self.state()
        found = function(self.database, *arguments)
        self.assertEqual(self.state(), before)
        return found


class HistoryTest(ReportsTest):
    def check(self, table, values, expected):
        before = list(values)
        self.assertEqual(self.reported(history, table, values), expected)
        self.assertEqual(values, before)

    def test_one_row(self):
        self.committed(STAFF, 'insert staff ("ann", 3), ("bob", 3) from 10 to 50')
        self.check("staff", ["ann"], [(1, OPEN, 10, 50, ("ann", 3))])
        self.check("staff", ["bob"], [(1, OPEN, 10, 50, ("bob", 3))])

    def test_several_rows(self):
        self.committed(STAFF)
        self.committed('insert staff ("ann", 3) from 10 to 50', 'insert staff ("bob", 7) always')
        self.committed("update staff set pay = 4 where pay = 3 from 20 to 30")
        self.committed("update staff set pay = 2 where pay = 3 from 40")
        self.committed("delete staff always")
        self.committed('insert staff ("ann", 3) at 999999')
        self.check("staff", ["ann"], [
            (2, 3, 10, 50, ("ann", 3)),
            (3, 4, 10, 20, ("ann", 3)), (3, 4, 30, 50, ("ann", 3)), (3, 5, 20, 30, ("ann", 4)),
            (4, 5, 10, 20, ("ann", 3)), (4, 5, 30, 40, ("ann", 3)), (4, 5, 40, 50, ("ann", 2)),
            (6, OPEN, END - 1, END, ("ann", 3))])
        self.check("staff", ["bob"], [(2, 5, 0, END, ("bob", 7))])

    def test_values_that_never_stood(self):
        self.committed(STAFF, "table t (a number, b text) key (b, a)", 'insert t (1, "x") always')
        self.check("staff", ["ann"], [])
        self.committed('insert staff ("ann", 3) always')
        for values in (["Ann"], ["an"], ["ann "], [""], ["3"]):
            self.check("staff", values, [])
        for values in (["x", 2], ["y", 1], ["", 0], ["x", -1]):
            self.check("t", values, [])

    def test_what_is_pending_is_no_history(self):
        self.committed(STAFF, 'insert staff ("ann", 3) at 5')
        self.database.execute('insert staff ("eve", 3) always')
        self.database.execute("delete staff at 5")
        self.check("staff", ["eve"], [])
        self.check("staff", ["ann"], [(1, OPEN, 5, 6, ("ann", 3))])

    def test_keys_of_two_columns_in_any_order(self):
        for key, values in (("a, b", [1, "x"]), ("b, a", ["x", 1])):
            self.database = Database(Disk(1000))
            self.committed(f"table t (c number, b text, a number) key ({key})")
            self.committed('insert t (7, "x", 1), (8, "x", 2), (9, "y", 1) from 3')
            self.committed("update t set c = c - 5 at 5")
            self.check("t", values, [
                (2, 3, 3, END, (7, "x", 1)), (3, OPEN, 3, 5, (7, "x", 1)), (3, OPEN, 5, 6, (2, "x", 1)),
                (3, OPEN, 6, END, (7, "x", 1))])

    def test_columns_of_one_kind_in_the_order_of_the_rule(self):
        self.committed("table t (a number, b number, c number) key (c, a)", "insert t (1, 0, 2), (2, 5, 1) at 5")
        self.check("t", [2, 1], [(1, OPEN, 5, 6, (1, 0, 2))])
        self.check("t", [1, 2], [(1, OPEN, 5, 6, (2, 5, 1))])
        self.check("t", [1, 1], [])

    def test_a_key_of_all_columns(self):
        self.committed("table t (a number) key (a)", "insert t (- 4), (4) at 5")
        self.check("t", [-4], [(1, OPEN, 5, 6, (-4,))])

    def test_the_order(self):
        # By j, then k, then a, then b, then the row.
        self.committed("table t (a number, b number) key (a)", "insert t (1, 5) from 0 to 10", "insert t (1, 2) from 20")
        self.committed("update t set b = 9 from 5 to 10")
        self.committed("delete t from 25")
        expected = [(1, 2, 0, 10, (1, 5)), (1, 3, 20, END, (1, 2)), (2, OPEN, 0, 5, (1, 5)), (2, OPEN, 5, 10, (1, 9)),
                    (3, OPEN, 20, 25, (1, 2))]
        self.check("t", [1], expected)
        self.assertEqual(expected, sorted(expected))

    def test_behind_checkpoints_and_restarts(self):
        self.committed(STAFF, 'insert staff ("ann", 3) from 10 to 50')
        self.committed("update staff set pay = 4 at 20")
        before = history(self.database, "staff", ["ann"])
        self.assertEqual(len(before), 4)
        disk = self.database.journal.disk
        self.assertEqual(history(Database(disk), "staff", ["ann"]), before)
        self.database.checkpoint()
        self.assertEqual(history(self.database, "staff", ["ann"]), before)
        self.assertEqual(history(Database(disk), "staff", ["ann"]), before)

    def test_random_tables(self):
        source = random.Random(51)
        for _ in range(15):
            self.database = Database(Disk(1000))
            self.committed("table t (a number, b number, c number) key (c, a)")
            for _ in range(12):
                a, b = sorted(source.sample(range(12), 2))
                n, m = source.randrange(2), source.randrange(2)
                self.database.execute(source.choice([
                    f"insert t ({n}, {source.randrange(3)}, {m}) from {a} to {b}",
                    f"delete t where a = {n} from {a} to {b}", f"update t set b = b + 1 where c = {m} from {a} to {b}"]))
                if outcome(self.database.commit) != self.database.store.known:
                    self.database.undo()
            relation = self.database.store.relations()["t"]
            for n in range(3):
                for m in range(2):
                    expected = [(j, k, a, b, row) for row, region in relation if (row[2], row[0]) == (n, m)
                                for a, b, j, k in rectangles_of(region)]
                    self.check("t", [n, m], sorted(expected))


class DifferenceTest(ReportsTest):
    def check(self, text, j, k, expected):
        self.assertEqual(self.reported(difference, text, j, k), expected)

    def test_came_and_went(self):
        self.committed(STAFF)
        self.committed('insert staff ("ann", 3) from 10 to 50', 'insert staff ("bob", 7) always')
        self.committed("update staff set pay = 7 where pay = 3 from 20 to 30")
        text = "select pay, count from staff group pay"
        self.check(text, 1, 2, [((3, 1), "came", [(10, 50)]), ((7, 1), "came", [(0, END)])])
        self.check(text, 2, 3, [((3, 1), "went", [(20, 30)]), ((7, 1), "went", [(20, 30)]), ((7, 2), "came", [(20, 30)])])
        self.check(text, 3, 2, [((3, 1), "came", [(20, 30)]), ((7, 1), "came", [(20, 30)]), ((7, 2), "went", [(20, 30)])])
        self.check(text, 3, 0, [((3, 1), "went", [(10, 20), (30, 50)]), ((7, 1), "went", [(0, 20), (30, END)]),
                                ((7, 2), "went", [(20, 30)])])
        for k in range(4):
            self.check(text, k, k, [])
        self.check(text, 0, 1, [])

    def test_one_row_that_came_and_went(self):
        self.committed("table t (a number)", "insert t (1) from 3 to 7")
        self.committed("delete t at 3", "insert t (1) from 7")
        self.check("select a from t", 1, 2, [((1,), "came", [(7, END)]), ((1,), "went", [(3, 4)])])
        self.check("select a from t", 2, 1, [((1,), "came", [(3, 4)]), ((1,), "went", [(7, END)])])

    def test_questions(self):
        self.committed(STAFF, "table places (name text)", 'insert staff ("ann", 3), ("bob", 5) from 0 to 9')
        self.committed('insert places ("ann") from 3 to 20')
        self.check("select name from staff where exists (select 1 from places where name = staff.name)", 1, 2,
                   [(("ann",), "came", [(3, 9)])])
        self.check("select name from staff except select name from places", 1, 2, [(("ann",), "went", [(3, 9)])])
        self.check("select name from staff\nunion select name from places", 1, 2, [(("ann",), "came", [(9, 20)])])
        self.check("select s.pay from staff as s, places as p where p.name = s.name", 2, 1, [((3,), "went", [(3, 9)])])
        self.check("select 1 from places", 1, 2, [((1,), "came", [(3, 20)])])

    def test_what_is_pending_makes_no_difference(self):
        self.committed(STAFF, 'insert staff ("ann", 3) at 5')
        self.database.execute("delete staff always")
        self.database.execute("table t (a number)")
        self.check("select name from staff", 1, 1, [])
        self.check("select name from staff", 0, 1, [(("ann",), "came", [(5, 6)])])
        with self.assertRaises(UnknownName) as raised:
            difference(self.database, "select a from t", 0, 1)
        self.assertEqual(raised.exception.place, 14)

    def test_behind_a_commit_the_store_counts(self):
        # The database's own transaction has an older known number than the store.
        self.committed(STAFF)
        other = self.database.begin()
        self.database.execute('insert staff ("ann", 3) at 5', other)
        self.database.commit(other)
        self.assertEqual(self.database.transaction.known, 1)
        self.check("select name from staff", 1, 2, [(("ann",), "came", [(5, 6)])])

    def test_mistaken_questions(self):
        self.committed(STAFF)
        for text, error, place in (("select", SyntaxFault, 6), ("select x from staff", UnknownName, 7),
                                   ("select name from staff where", SyntaxFault, 28)):
            before = self.state()
            with self.assertRaises(StatementError) as raised:
                difference(self.database, text, 0, 1)
            self.assertIs(type(raised.exception), error)
            self.assertEqual(raised.exception.place, place)
            self.assertEqual(self.state(), before)

    def test_random_questions(self):
        count = 0
        for seed in range(40):
            count += self.run_one(random.Random(seed))
        self.assertGreater(count, 60)

    def run_one(self, source):
        maker, model = TextMaker(source), ModelStore()
        self.database = Database(Disk(1000))
        other = model.begin()
        for _ in range(14):
            text = maker.statement(other.schemas, other.known)
            if outcome(other.apply, meaning_of(text, other.schemas))[0] != "NotYetKnown":
                self.database.execute(text)
            if source.random() < 0.5 and not isinstance(outcome(model.commit, other), int):
                other.undo()
                self.database.undo()
            elif not other.done:
                self.database.commit()
        self.assertEqual(self.database.store.known, model.known)
        count = 0
        for _ in range(6):
            if model.schemas:
                text = maker.select(model.schemas, ["number"], [], 2)
                j, k = source.randrange(model.known + 1), source.randrange(model.known + 1)
                count += self.check_difference(model, text, j, k)
        return count

    def check_difference(self, model, text, j, k):
        """Holds a difference against the plain answers at each moment."""
        found = self.reported(difference, text, j, k)
        self.assertEqual(found, sorted(found))
        _, question, _, _ = meaning_of(text, model.schemas)
        expected = set()
        for m in MOMENTS:
            before, after = [set(plain_answer(question, {name: model.rows(name, m, known) for name in model.schemas}))
                             for known in (j, k)]
            expected |= {(row, "came", m) for row in after - before} | {(row, "went", m) for row in before - after}
        kept = {(row, word, m) for row, word, spans in found
                for m in integers_of([(a, min(b, LAST + 1)) for a, b in spans if a <= LAST])}
        self.assertEqual(kept, expected)
        return len(found)


if __name__ == "__main__":
    unittest.main()
