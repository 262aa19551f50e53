"""Tables at the bounds of the document through commits, checkpoints, restarts and dumps."""

import unittest

from model import state_of
from pastamended.corrections import corrections, dump
from pastamended.database import Database
from pastamended.disk import Disk
from pastamended.errors import WrongCount, WrongSpan
from pastamended.reports import difference, history
from pastamended.store import Store
from pastamended.values import END, MOST, OPEN

LETTERS = "abcdefghijklmnopqrst"
LONGEST = (" " * 40, "~" * 40, " a  b " + "x" * 34, "fact t 0 1 2 3 (4)" + "-" * 22, "")


def name_of(at):
    """A name of 20 characters."""
    return f"{LETTERS[at]}{'_' * 17}{at:02}"


def written(value):
    if isinstance(value, str):
        return f'"{value}"'
    return f"- {-value}" if value < 0 else str(value)


class BoundsTest(unittest.TestCase):
    def setUp(self):
        self.disk = Disk(4000)
        self.database = Database(self.disk)

    def committed(self, *texts):
        for text in texts:
            self.database.execute(text)
        return self.database.commit()

    def check_lasts(self):
        """Holds that the store is the same behind restarts, with and without a checkpoint."""
        expected = state_of(self.database.store)
        for step in (lambda: None, lambda: self.database.checkpoint()):
            step()
            self.assertEqual(state_of(self.database.store), expected)
            self.disk.restart(0)
            self.database = Database(self.disk)
            self.assertEqual(state_of(self.database.store), expected)

    def check_dump(self, name, known):
        """Holds that the statements of a dump make the rows of the table again, in another database."""
        store = self.database.store
        relation = store.relations()[name]
        texts = dump(name, relation, known)
        other = Database(Disk(4000))
        other.execute(store.text_of(name))
        for text in texts:
            other.execute(text)
        self.assertEqual(other.commit(), 1)
        again = other.store.relations()[name]
        self.assertEqual(dump(name, again, 1), texts)
        self.assertEqual([row for row, _, _ in corrections(again, 0, 1)],
                         [row for row, _, _ in corrections(relation, 0, known)])
        return texts

    def run_table(self, kinds, rows):
        """Makes a table with these rows, changes it, and looks at it from all sides."""
        names = [name_of(at) for at in range(len(kinds))]
        columns = ", ".join([f"{name} {kind}" for name, kind in zip(names, kinds)])
        text = f"table {name_of(19)} ({columns}) key ({', '.join(names)})"
        self.assertEqual(self.committed(text), 1)
        self.check_lasts()
        for row in rows:
            values = ", ".join([written(value) for value in row])
            self.committed(f"insert {name_of(19)} ({values}) from 3", f"insert {name_of(19)} ({values}) at 1")
        self.check_lasts()
        relation = self.database.store.relations()[name_of(19)]
        self.assertEqual(relation, [(row, [(2 + rows.index(row), OPEN, [(1, 2), (3, END)])]) for row in sorted(rows)])
        self.assertEqual(len(self.check_dump(name_of(19), len(rows) + 1)), 2 * len(rows))
        self.committed(f"delete {name_of(19)} where {names[0]} = {written(rows[0][0])} from {END - 1}")
        self.check_lasts()
        self.check_dump(name_of(19), len(rows) + 2)
        self.check_dump(name_of(19), 2)
        last = self.database.store.known
        self.assertEqual(history(self.database, name_of(19), list(rows[0])), [
            (2, last, 1, 2, rows[0]), (2, last, 3, END, rows[0]), (last, OPEN, 1, 2, rows[0]),
            (last, OPEN, 3, END - 1, rows[0])])
        question = f"select {', '.join(names)} from {name_of(19)}"
        deleted = sorted([row for row in rows if row[0] == rows[0][0]])
        self.assertEqual(difference(self.database, question, last - 1, last),
                         [(row, "went", [(END - 1, END)]) for row in deleted])

    def test_one_column_of_numbers(self):
        self.run_table(["number"], [(MOST,), (-MOST,), (0,), (-1,), (MOST - 1,), (1 - MOST,)])

    def test_one_column_of_texts(self):
        self.run_table(["text"], [(text,) for text in LONGEST])

    def test_twenty_columns_of_numbers(self):
        self.run_table(["number"] * 20, [(-MOST,) * 20, (MOST,) * 20, tuple(range(-10, 10)), (-MOST, MOST) * 10])

    def test_twenty_columns_of_texts(self):
        self.run_table(["text"] * 20, [(text,) * 20 for text in LONGEST] + [LONGEST * 4])

    def test_twenty_columns_of_both_kinds(self):
        self.run_table(["number", "text"] * 10, [(n, text) * 10 for n in (-MOST, MOST) for text in LONGEST[:2]])

    def test_a_column_too_many(self):
        columns = ", ".join([f"{name_of(at)} number" for at in range(20)])
        text = f"table t ({columns}, x text)"
        with self.assertRaises(WrongCount) as raised:
            self.database.execute(text)
        self.assertEqual(raised.exception.place, text.index("x text"))
        self.assertEqual(state_of(self.database.store), state_of(Store()))

    def test_sums_beyond_the_greatest_number(self):
        self.committed("table t (a number, b number)", f"insert t ({MOST}, 1), ({MOST}, 2), (- {MOST}, 3) always")
        self.assertEqual(self.database.execute("select sum (a) from t where a > 0 at 5"),
                         ("answer", [((-1,), [(2, 3, [(5, 6)])])]))
        self.committed("update t set a = a + b where b = 1 at 7")
        self.check_lasts()
        rows = [row for row, _ in self.database.store.relations()["t"]]
        self.assertEqual(rows, [(-MOST, 1), (-MOST, 3), (MOST, 1), (MOST, 2)])

    def test_statements_of_many_words(self):
        nots, signs = "not " * 180, "- " * 180
        self.committed(f"table t (a number) require {nots} a = 1", f"table u (a number) require {signs} a >= a",
                       f"insert t ({signs} 1) always", "insert u (7) always")
        self.check_lasts()
        self.database.execute(f"update t set a = {signs} a from 5")
        self.database.execute(f"update t set a = - - a where {' and '.join(['a = 1'] * 45)} from 5")
        self.database.execute(f"update t set a = {' + '.join(['a'] * 90)} - 89 from 5")
        self.database.execute(f"delete u where {' or '.join(['a = 1'] * 45)} or a = 7 from 5")
        self.assertEqual(self.committed(f"delete t where not {nots} a = 1 always"), 2)
        self.check_lasts()
        everywhere = [((1,), [(3, 4, [(0, END)])])]
        for text in (f"select a from t where {nots} a = 1", " union ".join(["select a from t"] * 40),
                     " intersect ".join(["select a from t"] * 40),
                     "select a from t where " + "exists (select 1 from t as x where " * 19 + "t.a = 1" + ")" * 19,
                     "select a from t where " + "not exists (select 1 from t where " * 19 + "a = 2" + ")" * 19):
            self.assertEqual(self.database.execute(text), ("answer", everywhere), text)
            self.assertEqual(difference(self.database, text, 0, 2), [((1,), "came", [(0, END)])])
        self.database.undo()

    def test_the_last_moment_and_the_first(self):
        self.committed("table t (a number) whole key (a)")
        self.committed(f"insert t (1) at {END - 1}", "insert t (2) at 0", "insert t (3) from 0 to 1000000")
        self.check_lasts()
        self.assertEqual(self.database.store.relations()["t"], [
            ((1,), [(2, OPEN, [(END - 1, END)])]), ((2,), [(2, OPEN, [(0, 1)])]), ((3,), [(2, OPEN, [(0, END)])])])
        self.assertEqual(self.check_dump("t", 2), [f"insert t (1) at {END - 1}", "insert t (2) at 0", "insert t (3) always"])
        for text in (f"at {END}", f"from {END}", f"from 0 to {END + 1}", "from 7 to 7"):
            with self.assertRaises(WrongSpan):
                self.database.execute(f"insert t (1) {text}")


if __name__ == "__main__":
    unittest.main()
