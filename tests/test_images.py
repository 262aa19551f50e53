import random
import unittest

from helpers import Unchanged
from model import ModelStore, TextMaker, check_store, do, meaning_of, outcome, state_of
from pastamended.images import image_text, store_of
from pastamended.reading import read_statement
from pastamended.store import Store
from pastamended.values import END, MOST, OPEN
from pastamended.writing import write_statement

STAFF = "table staff (name text, pay number) key (name)"


def written(text):
    return write_statement(read_statement(text))


def store_with(*commits):
    """A store with these commits, which are lists of texts; the tables have their written forms as texts."""
    store = Store()
    for texts in commits:
        transaction = store.begin()
        for text in texts:
            do(transaction, written(text))
        store.commit(transaction)
    return store


class ImageTest(unittest.TestCase):
    def check(self, store, lines):
        before = state_of(store)
        text = image_text(store)
        self.assertEqual(text.split("\n") if text else [], lines)
        other = Unchanged(self)(store_of, text, store.known)
        self.assertIsInstance(other, Store)
        self.assertEqual(state_of(other), before)
        self.assertEqual(state_of(store), before)
        self.assertEqual(image_text(other), text)


class LinesTest(ImageTest):
    def test_an_empty_store(self):
        self.check(Store(), [])
        self.assertEqual(image_text(Store()), "")
        self.assertEqual(state_of(store_of("", 0)), state_of(Store()))
        other = store_of("", 7)
        self.assertEqual((other.known, other.table_names(), other.relations()), (7, [], {}))

    def test_tables_without_rows(self):
        self.check(store_with(["table t (a number)"]), ["table t (a number)"])
        self.check(store_with(["table z (a number)", STAFF], ["table b(a   text)whole key(a)"]), [
            "table z (a number)", STAFF, "table b (a text) whole key (a)"])

    def test_a_row_and_its_rectangles(self):
        store = store_with([STAFF, 'insert staff ("ann", 3) from 10 to 50'], ["update staff set pay = 4 from 20 to 30"],
                           ["update staff set pay = 3 always"], ["delete staff from 40"])
        self.check(store, [
            STAFF,
            'fact staff 10 50 1 2 ("ann", 3)',
            'fact staff 10 20 2 3 ("ann", 3)',
            'fact staff 30 50 2 3 ("ann", 3)',
            'fact staff 10 50 3 4 ("ann", 3)',
            'fact staff 10 40 4 1000000 ("ann", 3)',
            'fact staff 20 30 2 3 ("ann", 4)',
        ])

    def test_tables_come_first_and_rows_table_by_table(self):
        store = store_with(
            ["table b (n number)", "table a (n number, m number) key (n) refers (m) to a", "insert b (2), (1) at 5"],
            ["insert a (- 1, - 1) always", "insert b (- 3) from 7", "table c (t text) most 2"],
            ['insert c ("x") at 0'])
        self.check(store, [
            "table b (n number)",
            "table a (n number, m number) key (n) refers (m) to a",
            "table c (t text) most 2",
            "fact b 7 1000000 2 1000000 (-3)",
            "fact b 5 6 1 1000000 (1)",
            "fact b 5 6 1 1000000 (2)",
            "fact a 0 1000000 2 1000000 (-1, -1)",
            'fact c 0 1 3 1000000 ("x")',
        ])

    def test_values(self):
        rows = [(-MOST, "", 0), (-5, " a  b ", -5), (0, "(1, 2)", 7), (MOST, "fact t 1 2", -1), (MOST, "~" * 40, -MOST)]
        texts = ", ".join(["({}, \"{}\", {})".format(*row) for row in rows]).replace("-", "- ")
        store = store_with(["table t (a number, b text, c number)", f"insert t {texts} always"])
        self.check(store, ["table t (a number, b text, c number)",
                           f'fact t 0 1000000 1 1000000 (-{MOST}, "", 0)',
                           'fact t 0 1000000 1 1000000 (-5, " a  b ", -5)',
                           'fact t 0 1000000 1 1000000 (0, "(1, 2)", 7)',
                           f'fact t 0 1000000 1 1000000 ({MOST}, "fact t 1 2", -1)',
                           f'fact t 0 1000000 1 1000000 ({MOST}, "{"~" * 40}", -{MOST})'])
        self.assertEqual(store.relations()["t"], [(row, [(1, OPEN, [(0, END)])]) for row in rows])

    def test_texts_that_look_like_signs(self):
        for text in ("-", "- 5", ",", ")", "(", "a, b", "\\n", "'", "table t (a number)"):
            store = store_with(["table t (b text, a number)", f'insert t ("{text}", - 5), ("-", 5) at 3'])
            rows = sorted([(text, -5), ("-", 5)])
            self.check(store, ["table t (b text, a number)"]
                       + [f'fact t 3 4 1 1000000 ("{one}", {n})' for one, n in rows])

    def test_names_that_look_like_lines(self):
        store = store_with(["table fact (fact number, t text)", 'insert fact (1, "fact fact 1 2 3 4 (5)") at 3'],
                           ["table facts (a number)", "insert facts (- 4) at 3"])
        self.check(store, ["table fact (fact number, t text)", "table facts (a number)",
                           'fact fact 3 4 1 1000000 (1, "fact fact 1 2 3 4 (5)")', "fact facts 3 4 2 1000000 (-4)"])

    def test_columns_one_and_twenty(self):
        names = ", ".join([f"c{n} {'text' if n % 2 else 'number'}" for n in range(20)])
        row = tuple(["~" * 40 if n % 2 else -MOST for n in range(20)])
        values = ", ".join([f'"{value}"' if n % 2 else f"- {MOST}" for n, value in enumerate(row)])
        store = store_with([f"table t ({names})", "table u (a text)"], [f"insert t ({values}) always", 'insert u ("") at 1'])
        self.check(store, [f"table t ({names})", "table u (a text)",
                           f"fact t 0 1000000 2 1000000 ({values.replace('- ', '-')})", 'fact u 1 2 2 1000000 ("")'])
        self.assertEqual(store_of(image_text(store), 2).relations()["t"], [(row, [(2, OPEN, [(0, END)])])])

    def test_rows_that_no_longer_stand(self):
        store = store_with(["table t (a number)", "insert t (1), (2) always"], ["delete t always"], ["insert t (3) at 0"])
        self.check(store, ["table t (a number)", "fact t 0 1000000 1 2 (1)", "fact t 0 1000000 1 2 (2)",
                           "fact t 0 1 3 1000000 (3)"])

    def test_all_rules(self):
        text = ("table t (a number, b text, c number) require not (a = 1 and b < \"x\") or c mod 2 = 0 refers (c) to s "
                "key (a, b) most 7 require t.a > - 1 whole refers (c) to s")
        store = store_with(["table s (n number) key (n)", "insert s (1) always"], [text, 'insert t (1, "y", 1) at 4'])
        self.check(store, ["table s (n number) key (n)", text, "fact s 0 1000000 1 1000000 (1)",
                           'fact t 4 5 2 1000000 (1, "y", 1)'])

    def test_rules_behind_an_image(self):
        store = store_with(["table s (n number) key (n)", "table t (a number) refers (a) to s require a <> 7 most 2"],
                           ["insert s (1), (7) always", "insert t (1) at 4"])
        other = store_of(image_text(store), 2)
        for text, rule, moment in (("delete s from 4", 0, 4), ("insert t (7) from 2", 1, 2), ("insert s (2) at 4", None, 0)):
            for one in (store, other):
                transaction = one.begin()
                do(transaction, text)
                expected = 3 if rule is None else ("RuleBroken", {"table": "t", "rule": rule, "moment": moment})
                self.assertEqual(outcome(one.commit, transaction), expected)
        self.assertEqual(state_of(store), state_of(other))


class SameStatementsTest(ImageTest):
    def test_random_statements(self):
        for seed in range(60):
            self.run_one(random.Random(seed))

    def run_one(self, source):
        maker = TextMaker(source)
        store, model = Store(), ModelStore()
        for _ in range(12):
            if source.random() < 0.4:
                other = store_of(image_text(store), store.known)
                self.assertEqual(state_of(other), state_of(store))
                self.check_side_by_side(maker, store, other)
                store = other
            self.do_some(maker, store, model)
            check_store(self, store, model)

    def do_some(self, maker, store, model):
        transaction, other = store.begin(), model.begin()
        for _ in range(4):
            text = written(maker.statement(other.schemas, other.known))
            meaning = meaning_of(text, other.schemas)
            if outcome(other.apply, meaning)[0] != "NotYetKnown":
                transaction.apply(meaning, text)
        self.assertEqual(outcome(store.commit, transaction), outcome(model.commit, other))

    def check_side_by_side(self, maker, store, other):
        """Holds that the same statements have the same answers in both stores, and two transactions the same end."""
        before = state_of(store)
        one = [store.begin(), other.begin()]
        two = [store.begin(), other.begin()]
        for _ in range(8):
            pair = maker.random.choice([one, two])
            text = maker.statement(pair[0].schemas(), store.known)
            self.assertEqual(outcome(do, pair[0], text), outcome(do, pair[1], text))
        for pair in (one, two):
            prepared = [outcome(owner.prepare, transaction) for owner, transaction in zip((store, other), pair)]
            if isinstance(prepared[0], tuple) or prepared[0] is None:
                self.assertEqual(prepared[0], prepared[1])
            else:
                self.assertEqual(prepared[0].relations(), prepared[1].relations())
            self.assertEqual(pair[0].relations(), pair[1].relations())
        self.assertEqual((state_of(store), state_of(other)), (before, before))


if __name__ == "__main__":
    unittest.main()
