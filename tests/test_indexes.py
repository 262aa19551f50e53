import random
import unittest

from helpers import Unchanged, random_region, random_relation
from pastamended.indexes import Index

ROWS = [(n, text, n * m) for n in range(3) for m in range(3) for text in ("a", "b")]
LOW = [(0, 3, [(0, 4)])]
HIGH = [(2, 6, [(2, 5)]), (7, 8, [(0, 1), (4, 6)])]


class IndexTest(unittest.TestCase):
    def test_one_column(self):
        index = Unchanged(self)(Index, [((1, "a"), LOW), ((1, "b"), HIGH), ((2, "a"), LOW)], [0])
        self.assertEqual(index.rows_for([1]), [((1, "a"), LOW), ((1, "b"), HIGH)])
        self.assertEqual(index.rows_for([2]), [((2, "a"), LOW)])
        self.assertEqual(index.rows_for([3]), [])
        index = Index([((1, "a"), LOW), ((1, "b"), HIGH), ((2, "a"), LOW)], [1])
        self.assertEqual(index.rows_for(["a"]), [((1, "a"), LOW), ((2, "a"), LOW)])

    def test_several_columns(self):
        relation = [((1, 2, "a"), LOW), ((2, 1, "a"), HIGH), ((2, 1, "b"), LOW)]
        self.assertEqual(Index(relation, [0, 1]).rows_for([2, 1]), [((2, 1, "a"), HIGH), ((2, 1, "b"), LOW)])
        self.assertEqual(Index(relation, [1, 0]).rows_for([2, 1]), [((1, 2, "a"), LOW)])
        self.assertEqual(Index(relation, [2, 0]).rows_for(["a", 2]), [((2, 1, "a"), HIGH)])
        self.assertEqual(Index(relation, [2, 0]).rows_for(["b", 1]), [])
        self.assertEqual(Index(relation, [1, 2, 0]).rows_for([1, "b", 2]), [((2, 1, "b"), LOW)])
        self.assertEqual(Index([(("ab", "c"), LOW)], [0, 1]).rows_for(["a", "bc"]), [])

    def test_no_columns(self):
        relation = [((1, "a"), LOW), ((1, "b"), HIGH)]
        self.assertEqual(Index(relation, []).rows_for([]), relation)
        self.assertEqual(Index([], []).rows_for([]), [])
        self.assertEqual(Index([], [0]).rows_for([1]), [])

    def test_put(self):
        index = Index([((1, "b"), LOW)], [0])
        self.assertIsNone(Unchanged(self)(index.put, (1, "c"), HIGH))
        self.assertIsNone(index.put((1, "a"), HIGH))
        self.assertEqual(index.rows_for([1]), [((1, "a"), HIGH), ((1, "b"), LOW), ((1, "c"), HIGH)])
        index.put((1, "a"), LOW)
        self.assertEqual(index.rows_for([1]), [((1, "a"), LOW), ((1, "b"), LOW), ((1, "c"), HIGH)])
        self.assertIsNone(index.put((1, "b"), []))
        self.assertEqual(index.rows_for([1]), [((1, "a"), LOW), ((1, "c"), HIGH)])
        index.put((7, "z"), HIGH)
        self.assertEqual(index.rows_for([7]), [((7, "z"), HIGH)])

    def test_put_with_the_empty_region(self):
        index = Index([((1, "b"), LOW)], [1])
        index.put((3, "b"), [])
        index.put((3, "x"), [])
        self.assertEqual(index.rows_for(["b"]), [((1, "b"), LOW)])
        self.assertEqual(index.rows_for(["x"]), [])
        index.put((1, "b"), [])
        self.assertEqual(index.rows_for(["b"]), [])
        index.put((1, "b"), [])
        index.put((1, "b"), HIGH)
        self.assertEqual(index.rows_for(["b"]), [((1, "b"), HIGH)])

    def test_arguments_that_change_later(self):
        region, columns = [(0, 3, [(0, 4)])], [0]
        relation = [((1, "a"), region)]
        index = Index(relation, columns)
        region[0][2].append((8, 9))
        region.append((7, 8, [(0, 1)]))
        relation.append(((1, "z"), LOW))
        columns[0] = 1
        columns.append(0)
        self.assertEqual(index.rows_for([1]), [((1, "a"), LOW)])
        other, values = [(0, 3, [(0, 4)])], [1]
        index.put((1, "b"), other)
        other[0][2].clear()
        other.clear()
        self.assertEqual(index.rows_for(values), [((1, "a"), LOW), ((1, "b"), LOW)])
        values[0] = 2
        self.assertEqual(index.rows_for([1]), [((1, "a"), LOW), ((1, "b"), LOW)])

    def test_results_that_change_later(self):
        index = Index([((1, "a"), LOW), ((1, "b"), HIGH)], [0])
        found = index.rows_for([1])
        found[0][1][0][2].append((8, 9))
        found[1][1].clear()
        found.clear()
        self.assertEqual(index.rows_for([1]), [((1, "a"), LOW), ((1, "b"), HIGH)])
        index.rows_for([5]).append(((5, "x"), LOW))
        self.assertEqual(index.rows_for([5]), [])

    def test_against_a_dict(self):
        source = random.Random(81)
        for _ in range(100):
            columns = source.sample(range(3), source.randrange(4))
            relation = random_relation(source, ROWS)
            index, rows = Index(relation, columns), dict(relation)
            for _ in range(source.randrange(30)):
                row = source.choice(ROWS)
                rows[row] = random_region(source)
                index.put(row, rows[row])
            for one in ROWS + [(9, "z", 9)]:
                values = [one[column] for column in columns]
                expected = [(row, rows[row]) for row in sorted(rows) if rows[row] and [row[c] for c in columns] == values]
                self.assertEqual(Unchanged(self)(index.rows_for, values), expected)


if __name__ == "__main__":
    unittest.main()
