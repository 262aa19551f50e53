import copy
import unittest

from model import state_of
from pastamended.database import Database
from pastamended.disk import Disk
from pastamended.errors import (
    AmbiguousName, Conflict, DiskFull, DuplicateName, Misplaced, NotYetKnown, PowerLost, RuleBroken, Stopped,
    SyntaxFault, UnknownName, WrongCount, WrongKind, WrongRule, WrongSpan,
)
from pastamended.images import image_text
from pastamended.records import record_blocks
from pastamended.store import Store
from pastamended.transactions import Transaction
from pastamended.values import END, OPEN
from power import Traced, blocks_of, losses

STAFF = "table staff (name text, pay number) key (name)"
ANN = 'insert staff ("ann", 3) from 10 to 50'


class DatabaseTest(unittest.TestCase):
    def setUp(self):
        self.disk = Traced(200)
        self.database = Database(self.disk)

    def run_all(self, *texts, transaction=None):
        return [self.database.execute(text, transaction) for text in texts]

    def committed(self, *texts):
        self.run_all(*texts)
        return self.database.commit()

    def rows(self, text, transaction=None):
        word, relation = self.database.execute(text, transaction)
        self.assertEqual(word, "answer")
        return relation

    def whole_state(self, *transactions):
        return (state_of(self.database.store), blocks_of(self.disk), self.disk.waiting(),
                [(one.known, one.schemas(), one.relations()) for one in (self.database.transaction,) + transactions])

    def check_error(self, error, fields, function, *arguments, others=()):
        """Holds that the call raises this error and changes nothing at all."""
        before = self.whole_state(*others)
        with self.assertRaises(error) as raised:
            function(*arguments)
        self.assertIs(type(raised.exception), error)
        self.assertEqual(vars(raised.exception), fields)
        self.assertEqual(self.whole_state(*others), before)


class ExecuteTest(DatabaseTest):
    def test_a_new_database(self):
        self.assertIsInstance(self.database.store, Store)
        self.assertIsInstance(self.database.transaction, Transaction)
        self.assertEqual(state_of(self.database.store), state_of(Store()))
        self.assertEqual((self.database.transaction.known, self.database.transaction.relations()), (0, {}))
        self.assertEqual((self.disk.taken_trace(), blocks_of(self.disk)), ([], [""] * 200))

    def test_the_answers_of_all_statements(self):
        self.assertEqual(self.database.execute("table staff (name text, pay number)"), ("made", "staff"))
        self.assertEqual(self.database.execute('insert staff ("ann", 1 + 2), ("bob", - 5) always'), ("changed", 2000000))
        self.assertEqual(self.database.execute('insert staff ("eve", 3) at 7'), ("changed", 1))
        self.assertEqual(self.database.execute("update staff set pay = pay * 2 where pay > 0 from 5 to 9"), ("changed", 10))
        self.assertEqual(self.database.execute('delete staff where name = "bob" from 20'), ("changed", END - 20))
        self.assertEqual(self.database.execute("select name, pay from staff"), ("answer", [
            (("ann", 3), [(1, 2, [(0, 5), (9, END)])]), (("ann", 6), [(1, 2, [(5, 9)])]),
            (("bob", -5), [(1, 2, [(0, 20)])]), (("eve", 6), [(1, 2, [(7, 8)])])]))
        self.assertEqual(self.database.execute("select name from staff at 7 known 0"), ("answer", []))
        self.assertEqual(self.database.commit(), 1)
        self.assertEqual(self.database.execute("select name from staff at 7"), ("answer", [
            ((name,), [(2, 3, [(7, 8)])]) for name in ("ann", "bob", "eve")]))
        self.assertEqual(self.database.execute("select count from staff from 7 to 30 known 0 to 2"), ("answer", [
            ((1,), [(1, 2, [(20, 30)])]), ((2,), [(1, 2, [(8, 20)])]), ((3,), [(1, 2, [(7, 8)])])]))

    def test_questions(self):
        self.committed(STAFF, "table places (name text, town text)",
                       'insert staff ("ann", 3), ("bob", 5), ("eve", 5) from 0 to 9',
                       'insert places ("ann", "york"), ("eve", "bath") from 3 to 20')
        self.assertEqual(self.rows("select pay, count, sum (pay) from staff group pay having count > 1"),
                         [((5, 2, 10), [(2, 3, [(0, 9)])])])
        self.assertEqual(self.rows("select s.name, town from staff as s, places where s.name = places.name and pay > 3"),
                         [(("eve", "bath"), [(2, 3, [(3, 9)])])])
        question = "select name from staff where not exists (select 1 from places as p where p.name = staff.name)"
        self.assertEqual(self.rows(question), [(("ann",), [(2, 3, [(0, 3)])]), (("bob",), [(2, 3, [(0, 9)])]),
                                               (("eve",), [(2, 3, [(0, 3)])])])
        self.assertEqual(self.rows("select name from staff except select name from places from 4 to 6 known 1"),
                         [(("bob",), [(1, 2, [(4, 6)])])])
        self.assertEqual(self.rows("select name from staff intersect select name from places at 8"),
                         [(("ann",), [(2, 3, [(8, 9)])]), (("eve",), [(2, 3, [(8, 9)])])])

    def test_the_written_forms(self):
        self.committed("table  staff(name text,pay number)key(name)require((pay>0))")
        self.assertEqual(self.database.store.text_of("staff"), STAFF + " require pay > 0")
        self.disk.taken_trace()
        self.run_all('insert staff("a  b",0003)from 0\nto 1000000', "select name from staff",
                     "update staff set pay=(pay+1)*2 where((name<>\"x\"))from 0", "delete staff where(pay=1 or pay=2)at 07")
        self.assertEqual(self.database.commit(), 2)
        text = ('insert staff ("a  b", 3) always\nupdate staff set pay = (pay + 1) * 2 where name <> "x" always\n'
                "delete staff where pay = 1 or pay = 2 at 7")
        blocks = record_blocks(0, 2, text)
        start = 133 + len(record_blocks(0, 1, STAFF + " require pay > 0"))
        self.assertEqual(self.disk.taken_trace(), [(start + at, block) for at, block in enumerate(blocks)] + ["sync"])

    def test_tables_of_the_transaction(self):
        other = self.database.begin()
        self.run_all(STAFF, ANN, transaction=other)
        self.assertEqual(self.rows("select name from staff", other), [(("ann",), [(1, 2, [(10, 50)])])])
        self.check_error(UnknownName, {"place": 17}, self.database.execute, "select name from staff", others=(other,))
        self.assertEqual(self.database.execute("table staff (a number)"), ("made", "staff"))
        self.check_error(DuplicateName, {"place": 6}, self.database.execute, STAFF, other, others=(other,))

    def test_known_numbers(self):
        early = self.database.begin()
        self.committed(STAFF, ANN)
        question = "select name from staff known "
        for text, known in (("2", 2), ("0 to 3", 2), ("1 to 9", 8), (str(OPEN - 1), OPEN - 1), (f"0 to {OPEN}", OPEN - 1)):
            self.check_error(NotYetKnown, {"known": known}, self.database.execute, question + text)
        self.assertEqual(self.rows(question + "1"), [(("ann",), [(1, 2, [(10, 50)])])])
        self.database.execute("table t (a number)", early)
        self.check_error(NotYetKnown, {"known": 1}, self.database.execute, "select a from t known 1", early, others=(early,))
        self.assertEqual(self.rows("select a from t known 0", early), [])


class RefusedTest(DatabaseTest):
    def test_refused_statements_between_good_ones(self):
        self.committed(STAFF, "table places (name text)")
        refused = [
            ("", SyntaxFault, 0), ("delete", SyntaxFault, 6), ("delete staff where from 5", SyntaxFault, 19),
            ('insert staff ("ann", 3)', SyntaxFault, 23), ("selec name from staff", SyntaxFault, 0),
            ("delete staff always?", SyntaxFault, 19),
            ("delete nobody always", UnknownName, 7), ("select nothing from staff", UnknownName, 7),
            ("update staff set x = 1 always", UnknownName, 17), ("select x.pay from staff", UnknownName, 7),
            (STAFF, DuplicateName, 6), ("table t (a number, a text)", DuplicateName, 19),
            ("select 1 from staff, staff", DuplicateName, 21),
            ("select name from staff, places", AmbiguousName, 7),
            ("delete staff where pay always", WrongKind, 19), ('delete staff where pay = "x" always', WrongKind, 25),
            ('insert staff ("ann", "bob") always', WrongKind, 21), ("update staff set pay = name always", WrongKind, 23),
            ('insert staff ("ann") always', WrongCount, 13), ("select 1 from staff union select 1, 2 from staff", WrongCount, 26),
            ("delete staff where count > 1 always", Misplaced, 19), ("select pay, count from staff", Misplaced, 7),
            ("table t (a text) refers (a) to places", WrongRule, 31), ("table t (a number) whole", WrongRule, 19),
            ("table t (a number) most 0", WrongRule, 24),
            ("delete staff from 5 to 5", WrongSpan, 13), ("delete staff from 0 to 1000001", WrongSpan, 13),
            ("select pay from staff known 3 to 2", WrongSpan, 22), ("delete staff at 1000000", WrongSpan, 13),
        ]
        other = self.database.begin()
        for at, (text, error, place) in enumerate(refused):
            self.check_error(error, {"place": place}, self.database.execute, text, others=(other,))
            self.check_error(error, {"place": place}, self.database.execute, text, other, others=(other,))
            self.assertEqual(self.database.execute(f'insert staff ("n{at}", {at}) at {at}'), ("changed", 1))
        self.check_error(NotYetKnown, {"known": 9}, self.database.execute, "select pay from staff known 9")
        self.disk.taken_trace()
        self.assertEqual(self.database.commit(), 2)
        text = "\n".join([f'insert staff ("n{at}", {at}) at {at}' for at in range(len(refused))])
        self.assertEqual([block for _, block in self.disk.taken_trace()[:-1]], record_blocks(0, 2, text))
        self.assertEqual(self.database.store.relations()["staff"],
                         sorted([((f"n{at}", at), [(2, OPEN, [(at, at + 1)])]) for at in range(len(refused))]))
        self.assertEqual(self.database.commit(other), 2)

    def test_a_bad_text_is_read_before_the_tables_are_asked(self):
        self.check_error(SyntaxFault, {"place": 19}, self.database.execute, "delete nobody where")


class CommitTest(DatabaseTest):
    def test_known_numbers(self):
        self.assertEqual(self.committed(STAFF), 1)
        self.assertEqual(self.committed(ANN), 2)
        self.assertEqual((self.database.store.known, self.database.transaction.known), (2, 2))
        self.assertEqual(self.database.commit(), 2)

    def test_nothing_in_effect(self):
        self.committed(STAFF, ANN)
        self.disk.taken_trace()
        self.disk.fall_after(0)
        for texts in ([], ["select name from staff"], ['insert staff ("ann", 3) at 20'], ["delete staff at 5"],
                      ['insert staff ("x", 1) at 5', "delete staff at 5"]):
            self.assertEqual(self.committed(*texts), 1)
            other = self.database.begin()
            self.run_all(*texts, transaction=other)
            self.assertEqual(self.database.commit(other), 1)
        self.disk.fall_after(None)
        self.assertEqual(self.disk.taken_trace(), [])

    def test_several_transactions(self):
        one, two = self.database.begin(), self.database.begin()
        self.assertIsInstance(one, Transaction)
        self.assertIsNot(one, two)
        self.run_all(STAFF, ANN, transaction=one)
        self.run_all("table t (a number)", "insert t (1) always", transaction=two)
        self.database.execute("table u (a number)")
        self.assertEqual(self.database.store.table_names(), [])
        self.assertEqual(self.database.commit(two), 1)
        self.disk.taken_trace()
        self.assertEqual(self.database.commit(transaction=one), 2)
        # The replay has the same texts.
        self.assertEqual([block for _, block in self.disk.taken_trace()[:-1]], record_blocks(0, 2, f"{STAFF}\n{ANN}"))
        self.assertEqual(self.database.commit(self.database.transaction), 3)
        self.assertEqual(self.database.store.table_names(), ["t", "staff", "u"])
        self.assertEqual(self.database.store.relations(), {
            "t": [((1,), [(1, OPEN, [(0, END)])])], "staff": [(("ann", 3), [(2, OPEN, [(10, 50)])])], "u": []})
        self.assertEqual((one.known, two.known), (2, 1))
        self.assertEqual(self.database.commit(one), 3)
        self.assertEqual(one.known, 3)
        self.check_again()

    def check_again(self):
        """Holds that a new database on the same disk has the same store."""
        expected = state_of(self.database.store)
        self.disk.fall_after(0)
        self.database = Database(self.disk)
        self.disk.fall_after(None)
        self.assertEqual(state_of(self.database.store), expected)

    def test_conflicts(self):
        self.committed(STAFF, ANN)
        late = self.database.begin()
        self.run_all('insert staff ("bob", 4) at 60', "select name from staff where pay > 3 from 0 to 70",
                     "update staff set pay = 9 at 11", transaction=late)
        twin = self.database.begin()
        self.database.execute("table t (a number)", twin)
        self.committed("update staff set pay = 4 at 20", "table t (a number)")
        self.check_error(Conflict, {"index": 1}, self.database.commit, late, others=(late,))
        self.check_error(Conflict, {"index": 0}, self.database.commit, twin, others=(twin,))
        self.check_error(Conflict, {"index": 1}, self.database.commit, late, others=(late,))
        self.assertIsNone(self.database.undo(late))
        self.assertEqual((late.known, late.relations()), (2, self.database.store.relations()))
        self.assertEqual(self.database.commit(late), 2)
        self.check_again()

    def test_a_replay_without_a_conflict(self):
        self.committed(STAFF, ANN)
        late = self.database.begin()
        self.run_all("select name from staff at 10", "update staff set pay = 9 at 11", transaction=late)
        self.committed('insert staff ("bob", 4) from 60')
        self.assertEqual(self.database.commit(late), 3)
        self.assertEqual(self.database.store.relations()["staff"], [
            (("ann", 3), [(1, 3, [(10, 50)]), (3, OPEN, [(10, 11), (12, 50)])]), (("ann", 9), [(3, OPEN, [(11, 12)])]),
            (("bob", 4), [(2, OPEN, [(60, END)])])])
        self.check_again()

    def test_broken_rules(self):
        self.committed(STAFF + " require pay > 0 most 2", "table t (name text) refers (name) to staff", ANN)
        fields = {"table": "staff", "rule": 1, "moment": 20}
        self.run_all('insert t ("ann") from 30 to 60', "update staff set pay = 0 at 20")
        self.check_error(RuleBroken, fields, self.database.commit)
        self.run_all("update staff set pay = 1 at 20")
        self.check_error(RuleBroken, {"table": "t", "rule": 0, "moment": 50}, self.database.commit)
        self.run_all("delete t from 50")
        self.assertEqual(self.database.commit(), 2)
        self.check_again()

    def test_broken_rules_of_a_replay(self):
        self.committed(STAFF)
        late = self.database.begin()
        self.database.execute('insert staff ("ann", 4) at 12', late)
        self.committed(ANN)
        self.check_error(RuleBroken, {"table": "staff", "rule": 0, "moment": 12}, self.database.commit, late, others=(late,))

    def test_undo(self):
        self.committed(STAFF)
        other = self.database.begin()
        self.database.execute(ANN)
        self.database.execute(ANN, other)
        self.assertIsNone(self.database.undo())
        self.assertEqual(self.rows("select name from staff"), [])
        self.assertEqual(self.rows("select name from staff", other), [(("ann",), [(2, 3, [(10, 50)])])])
        self.assertIsNone(self.database.undo(transaction=other))
        self.assertEqual(self.rows("select name from staff", other), [])
        self.assertEqual((self.database.commit(), self.database.commit(other)), (1, 1))


class BlocksTest(DatabaseTest):
    """The blocks of a disk of 31: the root, areas from 1 and 11 on, the log from 21 on."""

    def setUp(self):
        self.disk = Traced(31)
        self.database = Database(self.disk)

    def check(self, writes):
        self.assertEqual(self.disk.taken_trace(), writes)

    def written_at(self, start, generation, number, text):
        blocks = record_blocks(generation, number, text)
        return [(start + at, block) for at, block in enumerate(blocks)] + ["sync"]

    def test_after_each_step(self):
        self.committed("table t (a number)")
        self.check([(21, "0 1 0 1 table t (a number)"), "sync"])
        self.committed("insert t (1) always", "insert t (- 2) at 7")
        self.check([(22, "0 2 0 2 insert t (1) always\ninsert t (- "), (23, "0 2 1 2 2) at 7"), "sync"])
        image = "table t (a number)\nfact t 7 8 2 1000000 (-2)\nfact t 0 1000000 2 1000000 (1)"
        self.assertIsNone(self.database.checkpoint())
        self.check(self.written_at(1, 1, 2, image) + [(0, "root 1"), "sync"])
        self.committed("delete t at 7")
        self.check([(21, "1 3 0 1 delete t at 7"), "sync"])
        self.database.checkpoint()
        image = ("table t (a number)\nfact t 7 8 2 3 (-2)\nfact t 0 1000000 2 3 (1)\nfact t 0 7 3 1000000 (1)\n"
                 "fact t 8 1000000 3 1000000 (1)")
        self.check(self.written_at(11, 2, 3, image) + [(0, "root 2"), "sync"])
        self.database.checkpoint()
        self.check(self.written_at(1, 3, 3, image) + [(0, "root 3"), "sync"])
        self.committed("insert t (5) at 5")
        self.check([(21, "3 4 0 1 insert t (5) at 5"), "sync"])
        self.assertEqual([self.disk.block(index) for index in (0, 1, 11, 21)],
                         ["root 3", "3 3 0 4 " + image[:32], "2 3 0 4 " + image[:32], "3 4 0 1 insert t (5) at 5"])
        self.assertEqual(image_text(self.database.store), image + "\nfact t 5 6 4 1000000 (5)")
        # Recovering empties what is left of the older log.
        again = Database(self.disk)
        self.check([(22, ""), (23, ""), "sync"])
        self.assertEqual(state_of(again.store), state_of(self.database.store))

    def test_a_checkpoint_of_an_empty_store(self):
        self.database.checkpoint()
        self.check([(1, "1 0 0 1 "), "sync", (0, "root 1"), "sync"])
        self.assertEqual(state_of(Database(self.disk).store), state_of(Store()))
        self.assertEqual(self.committed("table t (a number)"), 1)
        self.check([(21, "1 1 0 1 table t (a number)"), "sync"])

    def test_pending_rows_are_in_no_image(self):
        self.committed("table t (a number)")
        self.database.execute("insert t (1) always")
        self.disk.taken_trace()
        self.database.checkpoint()
        self.check([(1, "1 1 0 1 table t (a number)"), "sync", (0, "root 1"), "sync"])
        self.assertEqual(self.rows("select a from t"), [((1,), [(2, 3, [(0, END)])])])
        self.assertEqual(self.database.commit(), 2)
        self.check([(21, "1 2 0 1 insert t (1) always"), "sync"])

    def test_a_checkpoint_ahead(self):
        self.committed("table t (a number)")
        for n in range(9):
            self.committed(f"insert t ({n}) at 5")
        self.disk.taken_trace()
        before = image_text(self.database.store)
        # The log of ten blocks is full.
        self.assertEqual(len(record_blocks(1, 10, before)), 8)
        self.assertEqual(self.committed("insert t (9) at 5"), 11)
        self.check(self.written_at(1, 1, 10, before) + [(0, "root 1"), "sync", (21, "1 11 0 1 insert t (9) at 5"), "sync"])
        again = Database(self.disk)
        self.assertEqual(state_of(again.store), state_of(self.database.store))

    def test_no_room_for_an_image(self):
        self.committed("table t (a number)")
        for n in range(11):
            self.committed(f"insert t ({n}) at 5")
        while len(record_blocks(1, 1, image_text(self.database.store))) <= 10:
            self.committed(f"insert t ({self.database.store.known}) at 5")
        known = self.database.store.known
        self.check_error(DiskFull, {}, self.database.checkpoint)
        # The log has room, until it is full.
        while self.database.journal.has_room("insert t (1234) at 5"):
            known += 1
            self.assertEqual(self.committed(f"insert t ({1000 + known}) at 5"), known)
        other = self.database.begin()
        for transaction in (None, other):
            self.database.execute("insert t (1234) at 5", transaction)
            for _ in range(2):
                self.disk.fall_after(0)
                self.check_error(DiskFull, {}, self.database.commit, transaction, others=(other,))
                self.disk.fall_after(None)
        self.check_error(DiskFull, {}, self.database.checkpoint)
        # What changes nothing in effect needs no room.
        self.database.undo()
        self.assertEqual(self.committed("insert t (1) at 5", "select a from t"), known)
        self.assertEqual(state_of(Database(self.disk).store), state_of(self.database.store))

    def test_a_record_that_is_longer_than_the_log(self):
        self.committed("table t (a number)")
        self.disk.taken_trace()
        texts = [f"insert t ({n}) at 5" for n in range(20)]
        self.assertEqual(len(record_blocks(0, 2, "\n".join(texts))), 12)
        self.run_all(*texts)
        before = (state_of(self.database.store), self.database.transaction.known, self.database.transaction.relations())
        self.assertRaises(DiskFull, self.database.commit)
        # The checkpoint came first.
        self.check([(1, "1 1 0 1 table t (a number)"), "sync", (0, "root 1"), "sync"])
        self.assertRaises(DiskFull, self.database.commit)
        self.check([(11, "2 1 0 1 table t (a number)"), "sync", (0, "root 2"), "sync"])
        after = (state_of(self.database.store), self.database.transaction.known, self.database.transaction.relations())
        self.assertEqual(after, before)
        self.assertEqual(state_of(Database(self.disk).store), before[0])
        self.database.undo()
        self.assertEqual(self.committed(*texts[:10]), 2)
        self.assertEqual(self.committed(*texts[10:]), 3)
        self.assertEqual(state_of(Database(self.disk).store), state_of(self.database.store))

    def test_a_record_that_just_fits(self):
        start = "table t (a text)"
        self.committed(start)
        self.disk.taken_trace()
        # Nine blocks are left of ten.
        texts = [f'insert t ("{"x" * 31}") at {n}' for n in range(5)] + [f'insert t ("{"y" * 20}") at 5']
        self.assertEqual(len("\n".join(texts)), 32 * 9)
        self.assertEqual(self.committed(*texts), 2)
        self.check(self.written_at(22, 0, 2, "\n".join(texts)))

    def test_the_smallest_disk(self):
        self.disk = Traced(4)
        self.database = Database(self.disk)
        self.assertEqual(self.committed("table t (a number)"), 1)
        self.check([(3, "0 1 0 1 table t (a number)"), "sync"])
        self.database.execute("insert t (1) at 5")
        self.assertEqual(self.database.commit(), 2)
        self.check([(1, "1 1 0 1 table t (a number)"), "sync", (0, "root 1"), "sync",
                    (3, "1 2 0 1 insert t (1) at 5"), "sync"])
        self.database.execute("insert t (2) at 5")
        # The image has a line more now, for which one block is too small.
        self.check_error(DiskFull, {}, self.database.commit)
        self.check_error(DiskFull, {}, self.database.checkpoint)
        self.check([])
        again = Database(self.disk)
        self.assertEqual(state_of(again.store), state_of(self.database.store))


class LastingTest(DatabaseTest):
    QUESTIONS = (
        "select name, pay from staff", "select count, sum (pay) from staff group pay",
        "select name from staff as s where not exists (select 1 from staff as x where x.pay > s.pay)",
        "select s.name, t.name from staff as s, staff as t where s.pay = t.pay and s.name < t.name",
        "select name from staff where pay > 3 union select name from staff where pay < 3 from 5 to 40",
    )

    def test_answers_about_earlier_known_numbers(self):
        self.committed(STAFF)
        steps = [ANN, 'insert staff ("bob", 5) from 30', "update staff set pay = 5 from 20 to 40", "delete staff at 35",
                 "table t (a number)", "update staff set pay = 1 where pay = 5 always", "delete staff always",
                 'insert staff ("eve", 2) always']
        kept = {}
        for step in steps:
            self.database.execute(step)
            self.check_kept(kept)
            self.database.commit()
            known = self.database.store.known
            for text in self.QUESTIONS:
                for part in (f"known {known}", f"known 0 to {known + 1}"):
                    kept[f"{text} {part}"] = self.database.execute(f"{text} {part}")
            self.check_kept(kept)
            self.check_kept(kept, self.database.begin())
            self.database.checkpoint()
            self.check_kept(kept)
            self.disk.restart(0)
            self.database = Database(self.disk)
            self.check_kept(kept)
        self.assertEqual(self.database.store.known, 9)
        self.assertEqual(len(kept), 80)

    def check_kept(self, kept, transaction=None):
        for text, answer in kept.items():
            self.assertEqual(self.database.execute(text, transaction), answer, text)

    def test_restarts(self):
        self.committed(STAFF, ANN)
        self.committed('insert staff ("bob", 5) from 30')
        expected = state_of(self.database.store)
        self.database.execute("delete staff always")
        for _ in range(3):
            self.disk.restart(0)
            database = Database(self.disk)
            self.assertEqual(state_of(database.store), expected)
            self.assertEqual((database.transaction.known, database.transaction.relations()), (2, self.database.store.relations()))
            database.checkpoint()
            self.assertEqual(state_of(Database(self.disk).store), expected)
        # Known numbers go on.
        database.execute("delete staff always")
        self.assertEqual(database.commit(), 3)

    def test_a_record_with_one_table_and_its_rows(self):
        self.committed("table t (a number) key (a) whole", "insert t (1) from 5 to 9", "update t set a = a + 1 from 7 to 9")
        self.assertEqual(state_of(Database(self.disk).store), state_of(self.database.store))

    def test_statements_that_undo_one_another(self):
        self.committed(STAFF, ANN, "delete staff always", ANN, "update staff set pay = 3 always")
        self.assertEqual(state_of(Database(self.disk).store), state_of(self.database.store))


class PowerTest(DatabaseTest):
    def check_stopped(self, database, *transactions):
        for transaction in (None,) + transactions:
            for _ in range(2):
                for text in ("select 1 from t", "table x (a number)", "no statement", ""):
                    self.assertRaises(Stopped, database.execute, text, transaction)
                self.assertRaises(Stopped, database.commit, transaction)
                self.assertRaises(Stopped, database.undo, transaction)
        self.assertRaises(Stopped, database.begin)
        self.assertRaises(Stopped, database.checkpoint)

    def check_losses(self, disk, texts, last):
        """Holds what a new database has behind each loss in a last call, before which the texts are executed."""
        old = state_of(Database(copy.deepcopy(disk)).store)
        new = old
        if last == "commit":
            one = Database(copy.deepcopy(disk))
            for text in texts:
                one.execute(text)
            one.commit()
            new = state_of(one.store)

        def action(lost):
            database = Database(lost)
            other = database.begin()
            for text in texts:
                database.execute(text)
            try:
                getattr(database, last)()
            except PowerLost:
                self.check_stopped(database, other)
                raise

        found = []
        for done, other in losses(disk, action):
            database = Database(other)
            self.assertIn(state_of(database.store), [old, new])
            found.append(state_of(database.store))
            # It goes on, and this lasts.
            database.execute("table again (a number)")
            known = database.commit()
            self.assertEqual(known, found[-1][0] + 1)
            expected = state_of(database.store)
            self.assertEqual(state_of(Database(other).store), expected)
        self.assertEqual((found[0], found[-1]), (old, new))
        return found, old, new

    def prepared(self, size, *commits):
        disk = Disk(size)
        database = Database(disk)
        for texts in commits:
            for text in texts:
                if text == "checkpoint":
                    database.checkpoint()
                else:
                    database.execute(text)
            database.commit()
        return disk

    COMMITS = (["table t (a number) key (a)", "insert t (1) from 3 to 7"], ["update t set a = 2 at 4"])

    def test_commits(self):
        for commits in ((), self.COMMITS, self.COMMITS + (["checkpoint", "delete t at 3"],)):
            disk = self.prepared(61, *commits)
            texts = ["table u (a number)", "insert u (1), (2), (3) at 5"] if not commits else [
                "insert t (- 3) from 9 to 12", "select a from t", "delete t where a = 2 at 4"]
            found, old, new = self.check_losses(disk, texts, "commit")
            # The sync of the record: of all choices just one makes the commit last.
            self.assertEqual(found.count(new), 2)

    def test_checkpoints(self):
        for commits in ((), self.COMMITS, self.COMMITS + (["checkpoint", "delete t at 3"],)):
            disk = self.prepared(61, *commits)
            self.check_losses(disk, [], "checkpoint")
            self.check_losses(disk, ["table u (a number)"], "checkpoint")

    def test_a_commit_with_a_checkpoint_ahead(self):
        disk = self.prepared(19, ["table t (a number)"], *[[f"insert t ({n}) at 5"] for n in range(5)])
        found, old, new = self.check_losses(disk, ["insert t (9) at 5", "delete t at 5"], "commit")
        self.assertEqual(found.count(new), 2)

    def test_stopped_for_good(self):
        disk = self.prepared(61, *self.COMMITS)
        for last in ("commit", "checkpoint"):
            database = Database(disk)
            other = database.begin()
            database.execute("delete t always")
            disk.fall_after(0)
            self.assertRaises(PowerLost, getattr(database, last))
            self.check_stopped(database, other)
            disk.restart(0)
            self.check_stopped(database, other)
            self.assertEqual(Database(disk).store.known, 2)

    def test_power_that_was_lost_before_the_call(self):
        disk = self.prepared(61, *self.COMMITS)
        database = Database(disk)
        disk.fall_after(0)
        self.assertRaises(PowerLost, disk.sync)
        # These need no disk.
        self.assertEqual(database.execute("delete t at 5"), ("changed", 1))
        database.begin()
        self.assertRaises(PowerLost, database.commit)
        self.check_stopped(database)
        self.assertRaises(PowerLost, Database, disk)
        disk.restart(0)
        self.assertEqual(Database(disk).store.known, 2)

    def test_errors_that_do_not_stop(self):
        disk = self.prepared(61, *self.COMMITS)
        database = Database(disk)
        database.execute("insert t (1) at 4")
        database.execute("insert t (2) at 4")
        database.execute("update t set a = 1 always")
        self.assertRaises(UnknownName, database.execute, "delete x always")
        self.assertRaises(NotYetKnown, database.execute, "select a from t known 5")
        database.undo()
        database.execute("table u (a number) require a > 0")
        database.execute("insert u (0) at 4")
        self.assertRaises(RuleBroken, database.commit)
        database.execute("delete u always")
        self.assertEqual(database.commit(), 3)

    def test_a_power_loss_while_a_database_is_made(self):
        disk = self.prepared(61, *self.COMMITS)
        database = Database(disk)
        database.execute("table u (a number, b number, c number) most 5")
        disk.fall_after(1)
        self.assertRaises(PowerLost, database.commit)
        disk.restart(1)
        for _, other in losses(disk, Database):
            self.assertEqual(state_of(Database(other).store), state_of(database.store))


if __name__ == "__main__":
    unittest.main()
