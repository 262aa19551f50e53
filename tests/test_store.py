import unittest

from model import do, outcome
from pastamended.errors import Conflict, RuleBroken
from pastamended.relations import cut
from pastamended.store import Store
from pastamended.transactions import Transaction
from pastamended.values import END, OPEN

STAFF = "table staff (name text, pay number) key (name)"
PLACES = "table places (name text)"


class StoreTest(unittest.TestCase):
    def setUp(self):
        self.store = Store()

    def committed(self, *texts):
        """Commits the statements in a transaction of their own."""
        transaction = self.store.begin()
        for text in texts:
            do(transaction, text)
        return self.store.commit(transaction)

    def begun(self, *texts):
        transaction = self.store.begin()
        for text in texts:
            do(transaction, text)
        return transaction

    def state(self, *transactions):
        tables = [(name, self.store.text_of(name), self.store.rules_of(name)) for name in self.store.table_names()]
        return (self.store.known, self.store.relations(), self.store.schemas(), tables,
                [(one.known, one.relations(), one.schemas()) for one in transactions])

    def check_error(self, transaction, error, **fields):
        """Holds that prepare and commit raise this error, again and again, and change nothing."""
        before = self.state(transaction)
        for function in (self.store.prepare, self.store.commit, self.store.prepare, self.store.commit):
            with self.assertRaises(error) as raised:
                function(transaction)
            self.assertEqual({name: getattr(raised.exception, name) for name in fields}, fields)
            self.assertEqual(self.state(transaction), before)

    def check_broken(self, text, table, rule, moment):
        self.check_error(self.begun(text), RuleBroken, table=table, rule=rule, moment=moment)


class NamesTest(StoreTest):
    def test_a_new_store(self):
        self.assertEqual(self.state(), (0, {}, {}, [], []))

    def test_names_texts_and_rules(self):
        ruled = "table pay (name text, n number) key (name, n) refers (name) to staff require n > 0 most 9 whole"
        self.committed("table zoo (a number)", STAFF)
        self.committed(ruled)
        self.assertEqual(self.store.table_names(), ["zoo", "staff", "pay"])
        for answered in (self.store.relations(), self.store.schemas(), self.store.begin().relations(),
                         self.store.begin().schemas()):
            self.assertEqual(list(answered), ["zoo", "staff", "pay"])
        self.assertEqual(self.store.text_of("staff"), STAFF)
        self.assertEqual(self.store.text_of("pay"), ruled)
        self.assertEqual(self.store.rules_of("zoo"), [])
        self.assertEqual(self.store.rules_of("pay"), [
            ("key", [0, 1]), ("refers", [0], "staff"), ("require", ("gt", ("cell", 0, 0, 1), ("number", 0))), ("most", 9),
            ("whole",)])
        self.assertEqual(self.store.schemas()["pay"], ([("name", "text"), ("n", "number")], [0, 1]))

    def test_a_table_without_a_text(self):
        transaction = self.store.begin()
        transaction.apply(("table", "t", [("a", "number")], []))
        self.store.commit(transaction)
        self.assertEqual(self.store.text_of("t"), "")

    def test_the_order_of_the_names_behind_a_replay(self):
        late = self.begun("table c (a number)", "table a (a number)")
        self.committed("table b (a number)")
        self.store.commit(late)
        self.assertEqual(self.store.table_names(), ["b", "c", "a"])
        self.assertEqual(list(late.relations()), ["b", "c", "a"])


class CommitTest(StoreTest):
    def test_known_numbers(self):
        transaction = self.begun(STAFF)
        self.assertEqual(self.store.known, 0)
        self.assertEqual(self.store.commit(transaction), 1)
        self.assertEqual((self.store.known, transaction.known), (1, 1))
        do(transaction, 'insert staff ("ann", 3) always')
        self.assertEqual(self.store.relations(), {"staff": []})
        self.assertEqual(self.store.commit(transaction), 2)
        self.assertEqual(self.store.relations(), {"staff": [(("ann", 3), [(2, OPEN, [(0, END)])])]})

    def test_facts_at_each_known_number(self):
        self.committed(STAFF)
        self.committed('insert staff ("ann", 3) from 10 to 50')
        self.committed("update staff set pay = 4 from 20 to 30")
        self.committed("update staff set pay = 3 always")
        self.committed("delete staff from 40")
        relation = self.store.relations()["staff"]
        self.assertEqual(relation, [
            (("ann", 3), [(2, 3, [(10, 50)]), (3, 4, [(10, 20), (30, 50)]), (4, 5, [(10, 50)]), (5, OPEN, [(10, 40)])]),
            (("ann", 4), [(3, 4, [(20, 30)])])])
        self.assertEqual([cut(relation, 25, k) for k in range(7)],
                         [[], [], [("ann", 3)], [("ann", 4)], [("ann", 3)], [("ann", 3)], [("ann", 3)]])

    def test_a_table_has_no_rows_before_it_was_made(self):
        self.committed(STAFF, 'insert staff ("ann", 3) always')
        self.committed(PLACES, 'insert places ("x") always')
        relations = self.store.relations()
        for k in range(5):
            self.assertEqual(cut(relations["staff"], 7, k), [("ann", 3)] if k >= 1 else [])
            self.assertEqual(cut(relations["places"], 7, k), [("x",)] if k >= 2 else [])

    def test_the_transaction_begins_again(self):
        transaction = self.begun(STAFF, 'insert staff ("ann", 3) always')
        self.store.commit(transaction)
        self.assertEqual(transaction.relations(), self.store.relations())
        self.assertEqual(self.store.commit(transaction), 1)
        other = self.begun('insert staff ("bob", 3) always')
        self.store.commit(other)
        self.assertEqual(do(transaction, "select name from staff"), ("answer", [(("ann",), [(2, 3, [(0, END)])])]))
        transaction.undo()
        self.assertEqual(transaction.relations(), self.store.relations())

    def test_commits_that_change_nothing_in_effect(self):
        self.assertEqual(self.store.commit(self.store.begin()), 0)
        self.committed(STAFF, 'insert staff ("ann", 3) from 10 to 50')
        before = self.state()
        for texts in ([], ["select name from staff"], ['insert staff ("ann", 3) from 20 to 30'], ["delete staff at 9"],
                      ["update staff set pay = pay always"], ['insert staff ("bob", 3) at 7', "delete staff at 7"],
                      ["delete staff always", 'insert staff ("ann", 3) from 10 to 50']):
            transaction = self.begun(*texts)
            self.assertIsNone(self.store.prepare(transaction))
            self.assertEqual(self.store.commit(transaction), 1)
            self.assertEqual(self.state(), before)
            self.assertEqual((transaction.known, transaction.relations()), (1, self.store.relations()))

    def test_rules_do_not_count_where_nothing_changes(self):
        self.committed("table t (a number) require a > 0")
        transaction = self.begun("insert t (0) always", "delete t always")
        self.assertEqual(self.store.commit(transaction), 1)

    def test_a_new_table_is_an_effect(self):
        self.assertEqual(self.committed(PLACES), 1)
        self.assertEqual(self.committed("table t (a number) key (a)"), 2)


class PrepareTest(StoreTest):
    def test_the_same_transaction(self):
        transaction = self.begun(STAFF)
        before = self.state(transaction)
        self.assertIs(self.store.prepare(transaction), transaction)
        self.assertEqual(self.state(transaction), before)

    def test_a_replayed_one(self):
        transaction = self.begun(STAFF, 'insert staff ("ann", 3) always', "select count from staff")
        self.committed(PLACES)
        before = self.state(transaction)
        prepared = self.store.prepare(transaction)
        self.assertIsInstance(prepared, Transaction)
        self.assertIsNot(prepared, transaction)
        self.assertEqual(self.state(transaction), before)
        self.assertEqual((transaction.known, prepared.known), (0, 1))
        self.assertEqual(prepared.relations(), {"places": [], "staff": [(("ann", 3), [(2, OPEN, [(0, END)])])]})
        self.assertEqual(self.store.commit(prepared), 2)
        self.assertEqual(self.store.text_of("staff"), STAFF)
        self.check_error(transaction, Conflict, index=0)

    def test_nothing_in_effect(self):
        self.committed(STAFF)
        transaction = self.begun('insert staff ("ann", 3) always', "delete staff always")
        self.assertIsNone(self.store.prepare(transaction))
        self.committed(PLACES)
        self.assertIsNone(self.store.prepare(transaction))
        self.assertEqual(self.store.commit(transaction), 2)

    def test_several_transactions(self):
        first, second = self.begun(PLACES), self.begun(STAFF)
        self.assertIs(self.store.prepare(second), second)
        self.store.commit(first)
        prepared = self.store.prepare(second)
        self.committed("table t (a number)")
        self.assertEqual(self.store.commit(prepared), 3)
        self.assertEqual(self.store.table_names(), ["places", "t", "staff"])


class ConflictTest(StoreTest):
    def setUp(self):
        super().setUp()
        self.committed(STAFF, PLACES, 'insert staff ("ann", 3) from 10 to 50')

    def test_replays_that_give_the_same_answers(self):
        transaction = self.begun('insert staff ("bob", 4) from 5', "select name, pay from staff known 0 to 2",
                                 'select pay from staff where name = "bob"', "update staff set pay = 5 at 20")
        self.committed('insert places ("x") always')
        self.assertEqual(self.store.commit(transaction), 3)
        self.assertEqual(self.store.relations()["staff"], [
            (("ann", 3), [(1, 3, [(10, 50)]), (3, OPEN, [(10, 20), (21, 50)])]), (("ann", 5), [(3, OPEN, [(20, 21)])]),
            (("bob", 4), [(3, OPEN, [(5, 20), (21, END)])]), (("bob", 5), [(3, OPEN, [(20, 21)])])])
        self.assertEqual(transaction.known, 3)

    def test_a_replay_sees_what_was_committed_since(self):
        self.committed("table n (a number) key (a)")
        transaction = self.begun("update n set a = a + 1 always", 'insert places ("y") always')
        self.committed('insert staff ("bob", 9) always')
        self.assertEqual(self.store.commit(transaction), 4)
        self.assertEqual(self.store.relations()["places"], [(("y",), [(4, OPEN, [(0, END)])])])

    def test_questions(self):
        same = ["select count from staff from 10 to 50"]
        transaction = self.begun(*same, 'insert places ("x") always', "select name from staff")
        self.committed('insert staff ("bob", 3) from 60')
        self.check_error(transaction, Conflict, index=2)
        transaction = self.begun(*same, "select name from staff from 10", 'insert places ("x") always')
        self.committed("delete staff at 40")
        self.check_error(transaction, Conflict, index=0)
        transaction.undo()
        self.assertEqual(self.store.commit(transaction), 3)

    def test_questions_alone_conflict_too(self):
        transaction = self.begun("select name from staff")
        self.committed("delete staff at 40")
        self.check_error(transaction, Conflict, index=0)

    def test_the_same_rows_at_other_moments(self):
        transaction = self.begun("select name from staff", 'insert places ("x") always')
        self.committed('insert staff ("ann", 4) at 7')
        self.check_error(transaction, Conflict, index=0)

    def test_questions_about_known_numbers_stay_the_same(self):
        transaction = self.begun("select name, pay from staff known 1", "select name from staff known 0 to 2",
                                 'insert places ("x") always')
        self.committed("delete staff always")
        self.assertEqual(self.store.commit(transaction), 3)

    def test_changes(self):
        transaction = self.begun('insert places ("x") always', 'insert staff ("bob", 3) from 5 to 9')
        self.committed('insert staff ("bob", 3) at 6')
        self.check_error(transaction, Conflict, index=1)
        transaction = self.begun("delete staff where pay > 3 always", "update staff set pay = 7 always")
        self.committed('insert staff ("eve", 2) at 6')
        self.check_error(transaction, Conflict, index=1)

    def test_the_number_counts_not_the_rows(self):
        transaction = self.begun("delete staff from 10 to 20")
        self.committed('update staff set name = "eve" always')
        self.assertEqual(self.store.commit(transaction), 3)
        self.assertEqual(self.store.relations()["staff"][1], (("eve", 3), [(2, 3, [(10, 50)]), (3, OPEN, [(20, 50)])]))

    def test_tables_that_there_are(self):
        transaction = self.begun('insert places ("x") always', "table t (a number)", "insert t (1) always")
        self.committed("table u (a number)")
        self.store.prepare(transaction)
        self.committed("table t (b text, c text)")
        self.check_error(transaction, Conflict, index=1)

    def test_refused_statements_do_not_count(self):
        transaction = self.begun('insert places ("x") always')
        self.assertEqual(outcome(do, transaction, "select name from staff known 2"), ("NotYetKnown", {"known": 2}))
        do(transaction, "select name from staff")
        self.committed("delete staff at 40")
        self.check_error(transaction, Conflict, index=1)

    def test_a_replay_that_has_no_effect_any_more(self):
        transaction = self.begun("delete places always", 'insert places ("x") at 3', "delete places at 3")
        self.committed("delete staff at 40")
        self.assertEqual(self.store.commit(transaction), 2)
        self.assertEqual(transaction.known, 2)


class RulesTest(StoreTest):
    def test_each_rule(self):
        self.committed("table t (a number, b number) key (a) require b < 5 most 2 whole refers (b) to t")
        self.committed("insert t (1, 1) from 10 to 50")
        self.check_broken("insert t (1, 2) from 20", "t", 0, 20)
        self.check_broken("insert t (7, 7) from 30", "t", 1, 30)
        self.check_broken("insert t (2, 1), (3, 1) from 20 to 30", "t", 2, 20)
        self.check_broken("delete t from 20 to 30", "t", 3, 30)
        self.check_broken("insert t (2, 3) from 20 to 30", "t", 4, 20)
        self.assertEqual(self.committed("insert t (2, 1) from 20 to 30"), 3)

    def test_the_least_moment_first(self):
        self.committed("table a (n number) require n > 0", "table b (n number) require n > 0")
        self.check_error(self.begun("insert a (0) from 8", "insert b (0) from 7"), RuleBroken, table="b", rule=0, moment=7)
        self.check_error(self.begun("insert a (0) at 9", "insert a (0) at 3"), RuleBroken, table="a", rule=0, moment=3)

    def test_then_the_table_that_was_made_first(self):
        self.committed("table z (n number) require n > 0")
        self.committed("table a (n number) require n > 0")
        transaction = self.begun("table b (n number) most 1", "insert b (1), (2) at 4", "insert a (0) at 4",
                                 "insert z (0) at 4")
        self.check_error(transaction, RuleBroken, table="z", rule=0, moment=4)
        do(transaction, "delete z always")
        self.check_error(transaction, RuleBroken, table="a", rule=0, moment=4)
        do(transaction, "delete a always")
        self.check_error(transaction, RuleBroken, table="b", rule=0, moment=4)
        do(transaction, "delete b where n = 1 always")
        self.assertEqual(self.store.commit(transaction), 3)

    def test_then_the_first_rule(self):
        self.committed("table t (n number) most 1 require n > 0 require n < 9")
        self.check_broken("insert t (-1), (0) at 4", "t", 0, 4)
        self.check_broken("insert t (0) at 4", "t", 1, 4)
        self.check_broken("insert t (9) at 4", "t", 2, 4)

    def test_rules_of_other_tables(self):
        self.committed("table t (a number) key (a)", "table s (a number) refers (a) to t",
                       "insert t (1) from 5", "insert s (1) from 7 to 9")
        self.check_broken("delete t from 8", "s", 0, 8)
        self.check_broken("update t set a = 2 always", "s", 0, 7)
        self.assertEqual(self.committed("delete t from 9"), 2)

    def test_at_the_first_and_the_last_moment(self):
        self.committed("table t (a number) require a > 0")
        self.check_broken("insert t (0) always", "t", 0, 0)
        self.check_broken(f"insert t (0) at {END - 1}", "t", 0, END - 1)

    def test_rules_behind_a_replay(self):
        self.committed("table t (a number) most 1")
        transaction = self.begun("insert t (1) at 3")
        self.committed("insert t (2) at 3")
        self.check_error(transaction, RuleBroken, table="t", rule=0, moment=3)
        do(transaction, "select a from t")
        self.check_error(transaction, Conflict, index=1)

    def test_going_on_behind_an_error(self):
        self.committed("table t (a number) most 1")
        transaction = self.begun("insert t (1), (2) at 3")
        self.check_error(transaction, RuleBroken, table="t", rule=0, moment=3)
        do(transaction, "delete t where a = 2 always")
        self.assertEqual(self.store.commit(transaction), 2)
        self.assertEqual(self.store.relations()["t"], [((1,), [(2, OPEN, [(3, 4)])])])

    def test_what_is_pending_may_break_rules_for_a_while(self):
        self.committed("table t (a number) key (a)", "table s (a number) refers (a) to t")
        self.assertEqual(self.committed("insert s (1) at 5", "insert t (1) at 5"), 2)


if __name__ == "__main__":
    unittest.main()
