import random
import unittest

from helpers import Unchanged, random_statement, with_places
from pastamended.reading import read_statement
from pastamended.trees import bare


class BareTest(unittest.TestCase):
    def check(self, text, tree):
        self.assertEqual(Unchanged(self)(bare, read_statement(text)), tree)

    def test_table(self):
        self.check("table t (a number, b text) key (a, b) refers (a) to s require a > 5 most 7 whole",
                   ("table", 0, "t", 0, [("a", 0, "number"), ("b", 0, "text")],
                    [("key", 0, [("a", 0), ("b", 0)]), ("refers", 0, [("a", 0)], "s", 0),
                     ("require", 0, ("gt", 0, ("name", 0, "", "a"), ("number", 0, 5))), ("most", 0, 7, 0),
                     ("whole", 0)]))

    def test_insert(self):
        self.check('insert t (1, "b"), (- 2) from 3 to 9',
                   ("insert", 0, "t", 0,
                    [(0, [("number", 0, 1), ("text", 0, "b")]), (0, [("neg", 0, ("number", 0, 2))])], (0, 3, 9)))

    def test_update_and_delete(self):
        self.check("update t set a = count, b = t.b where not a at 9",
                   ("update", 0, "t", 0, [("a", 0, ("count", 0)), ("b", 0, ("name", 0, "t", "b"))],
                    ("not", 0, ("name", 0, "", "a")), (0, 9, 10)))
        self.check("update t set a = 1 at 9", ("update", 0, "t", 0, [("a", 0, ("number", 0, 1))], None, (0, 9, 10)))
        self.check("delete t from 4", ("delete", 0, "t", 0, None, (0, 4, 1000000)))

    def test_ask(self):
        inner = ("select", 0, [(("number", 0, 7), "")], [("s", 0, "s", 0)], None, None, None)
        first = ("select", 0, [(("sum", 0, ("name", 0, "", "a")), "b")], [("t", 0, "u", 0)],
                 ("exists", 0, inner), [("name", 0, "", "c")], ("eq", 0, ("count", 0), ("number", 0, 3)))
        self.check("select sum (a) as b from t as u where exists (select 7 from s) group c having count = 3 "
                   "except select 7 from s at 5 known 6 to 8",
                   ("ask", 0, ("except", 0, first, inner), (0, 5, 6), (0, 6, 8)))

    def test_bare_of_bare(self):
        tree = bare(read_statement("delete t where a = 7 at 5"))
        self.assertEqual(bare(tree), tree)

    def test_random_statements(self):
        source = random.Random(10)
        for _ in range(500):
            row, tree = random_statement(source)
            self.assertEqual(Unchanged(self)(bare, read_statement(" ".join(row))), with_places(tree, lambda index: 0))


if __name__ == "__main__":
    unittest.main()
