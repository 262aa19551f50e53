import random
import unittest

from helpers import Unchanged, integers_of, random_relation
from model import do
from pastamended.checking import check_statement
from pastamended.corrections import corrections, dump
from pastamended.reading import read_statement
from pastamended.regions import at_known, region_of
from pastamended.store import Store
from pastamended.values import END, MOST, OPEN

RELATION = [
    (("ann", 3), [(1, 3, [(10, 50)]), (3, OPEN, [(10, 20), (40, 60)])]),
    (("ann", 4), [(3, 5, [(20, 40)])]),
    (("bob", 3), [(2, OPEN, [(0, END)])]),
]


class CorrectionsTest(unittest.TestCase):
    def check(self, j, k, expected, relation=RELATION):
        self.assertEqual(Unchanged(self)(corrections, relation, j, k), expected)

    def test_came_and_went(self):
        self.check(1, 2, [(("bob", 3), "came", [(0, END)])])
        self.check(2, 3, [(("ann", 3), "came", [(50, 60)]), (("ann", 3), "went", [(20, 40)]),
                          (("ann", 4), "came", [(20, 40)])])
        self.check(3, 7, [(("ann", 4), "went", [(20, 40)])])
        self.check(0, 3, [(("ann", 3), "came", [(10, 20), (40, 60)]), (("ann", 4), "came", [(20, 40)]),
                          (("bob", 3), "came", [(0, END)])])

    def test_known_numbers_in_any_order(self):
        self.check(3, 2, [(("ann", 3), "came", [(20, 40)]), (("ann", 3), "went", [(50, 60)]),
                          (("ann", 4), "went", [(20, 40)])])
        self.check(3, 0, [(("ann", 3), "went", [(10, 20), (40, 60)]), (("ann", 4), "went", [(20, 40)]),
                          (("bob", 3), "went", [(0, END)])])

    def test_nothing(self):
        for k in (0, 1, 3, 9, OPEN - 1):
            self.check(k, k, [])
        self.check(5, OPEN - 1, [])
        self.check(0, 9, [], [])

    def test_the_last_moment(self):
        relation = [((1,), [(1, 2, [(0, END)]), (2, 3, [(0, END - 1)]), (3, OPEN, [(END - 1, END)])])]
        self.check(1, 2, [((1,), "went", [(END - 1, END)])], relation)
        self.check(2, 3, [((1,), "came", [(END - 1, END)]), ((1,), "went", [(0, END - 1)])], relation)

    def test_random_relations(self):
        source = random.Random(97)
        for _ in range(100):
            relation = random_relation(source, [(n, text) for n in range(3) for text in ("a", "b")])
            for j in range(9):
                for k in range(9):
                    found = corrections(relation, j, k)
                    self.assertEqual(found, sorted(found, key=lambda one: one[:2]))
                    dictionary = {(row, word): integers_of(spans) for row, word, spans in found}
                    self.assertEqual(len(dictionary), len(found))
                    for row, region in relation:
                        before, after = [integers_of(at_known(region, known)) for known in (j, k)]
                        self.assertEqual(dictionary.get((row, "came"), set()), after - before)
                        self.assertEqual(dictionary.get((row, "went"), set()), before - after)
                    self.assertTrue(all(dictionary.values()))


class DumpTest(unittest.TestCase):
    def check(self, relation, known, texts, name="t"):
        self.assertEqual(Unchanged(self)(dump, name, relation, known), texts)

    def test_rows_and_spans(self):
        self.check(RELATION, 0, [])
        self.check(RELATION, 1, ['insert staff ("ann", 3) from 10 to 50'], "staff")
        self.check(RELATION, 4, ['insert t ("ann", 3) from 10 to 20', 'insert t ("ann", 3) from 40 to 60',
                                 'insert t ("ann", 4) from 20 to 40', 'insert t ("bob", 3) always'])
        self.check(RELATION, OPEN - 1, ['insert t ("ann", 3) from 10 to 20', 'insert t ("ann", 3) from 40 to 60',
                                        'insert t ("bob", 3) always'])
        self.check([], 3, [])

    def test_spans(self):
        self.check([((1,), [(0, OPEN, [(0, 1), (2, 3), (5, 7), (9, END)])])], 4, [
            "insert t (1) at 0", "insert t (1) at 2", "insert t (1) from 5 to 7", "insert t (1) from 9"])
        self.check([((1,), [(0, OPEN, [(END - 1, END)])])], 0, [f"insert t (1) at {END - 1}"])
        self.check([((1,), [(0, OPEN, [(END - 2, END)])])], 0, [f"insert t (1) from {END - 2}"])
        self.check([((1,), [(0, OPEN, [(0, END - 1)])])], 0, [f"insert t (1) from 0 to {END - 1}"])

    def test_numbers(self):
        rows = [(-MOST,), (-5,), (-1,), (0,), (5,), (MOST,)]
        self.check([(row, [(0, 9, [(3, 4)])]) for row in rows], 8, [
            "insert t (- 1000000000000000000) at 3", "insert t (- 5) at 3", "insert t (- 1) at 3", "insert t (0) at 3",
            "insert t (5) at 3", "insert t (1000000000000000000) at 3"])
        self.check([((-1, 2, -3), [(0, 9, [(3, 4)])])], 8, ["insert t (- 1, 2, - 3) at 3"])

    def test_texts(self):
        rows = [("",), (" a  b ",), ("from 3, (x)",), ("~" * 40,)]
        self.check([(row, [(0, 9, [(3, 4)])]) for row in rows], 8, [f'insert t ("{row[0]}") at 3' for row in rows])

    def test_a_dump_makes_the_rows_again(self):
        source = random.Random(98)
        numbers = [-MOST, -5, -1, 0, 7, 10 ** 17 + 3, MOST]
        texts = ["", " ", " a  b ", "x" * 40, "insert t (1)", "<>'~!", "- 5"]
        bounds = [0, 1, 5, 6, 500, END - 2, END - 1, END]
        for _ in range(60):
            rows = sorted({(source.choice(numbers), source.choice(texts), source.choice(numbers)) for _ in range(6)})
            relation = []
            for row in rows:
                spans = [tuple(sorted(source.sample(bounds, 2))) for _ in range(2)]
                relation.append((row, region_of([(a, b, source.randrange(1, 4), OPEN) for a, b in spans])))
            for known in (0, 1, 2, 3, 9):
                self.check_again(relation, known)

    def check_again(self, relation, known):
        store = Store()
        transaction = store.begin()
        do(transaction, "table t (a number, b text, c number)")
        for text in dump("t", relation, known):
            statement = check_statement(read_statement(text), transaction.schemas())
            self.assertGreater(transaction.apply(statement, text)[1], 0)
        store.commit(transaction)
        expected = [(row, [(1, OPEN, at_known(region, known))]) for row, region in relation if at_known(region, known)]
        self.assertEqual(store.relations()["t"], expected)
        self.assertEqual(dump("t", store.relations()["t"], 1), dump("t", relation, known))


if __name__ == "__main__":
    unittest.main()
