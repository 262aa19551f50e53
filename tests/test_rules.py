import random
import time
import unittest

from helpers import Unchanged, cell, integers_of, number
from pastamended.plain_rules import rule_holds
from pastamended.rules import first_broken
from pastamended.spans import spans_of
from pastamended.values import END, OPEN

KNOWN = 3
# Facts that are withdrawn, which must not matter.
OLD = [(0, KNOWN, [(0, 12)])]


def relation(rows, known=KNOWN):
    """The relation in which these rows are facts at the known number; a dict from rows to spans."""
    return [(row, [(known, OPEN, rows[row])]) for row in sorted(rows) if rows[row]]


class RulesTest(unittest.TestCase):
    def check(self, rules, rows, broken, keys=None, known=KNOWN):
        """The rules are a list of pairs of a table and its rules; rows are a dict from tables to dicts from rows to spans."""
        tables = {name: relation(rows[name], known) for name in rows}
        keys = {"t": [0], "s": [0]} if keys is None else keys
        self.assertEqual(Unchanged(self)(first_broken, rules, tables, keys, known), broken)

    def check_one(self, rule, rows, moment, others=None, keys=None):
        """One rule of the table t with these rows."""
        self.check([("t", [rule])], {"t": rows, **(others or {})}, None if moment is None else ("t", 0, moment), keys)

    def test_no_rules(self):
        self.check([], {}, None)
        self.check([("t", []), ("s", [])], {"t": {(1,): [(0, 5)]}, "s": {}}, None)

    def test_key(self):
        key = ("key", [0])
        self.check_one(key, {}, None)
        self.check_one(key, {(1, 5): [(0, END)], (2, 5): [(0, END)]}, None)
        self.check_one(key, {(1, 5): [(0, 4)], (1, 6): [(4, END)]}, None)
        self.check_one(key, {(1, 5): [(0, 4), (9, 12)], (1, 6): [(4, 9), (12, 20)]}, None)
        self.check_one(key, {(1, 5): [(0, 5)], (1, 6): [(4, END)]}, 4)
        self.check_one(key, {(1, 5): [(0, END)], (1, 6): [(0, 1)]}, 0)
        self.check_one(key, {(1, 5): [(0, END)], (1, 6): [(END - 1, END)]}, END - 1)
        self.check_one(key, {(1, 5): [(0, 3), (8, 9)], (1, 6): [(4, 5), (8, 12)]}, 8)
        self.check_one(key, {(1, 5): [(7, 9)], (1, 6): [(8, 12)], (2, 5): [(5, 9)], (2, 6): [(6, 7)]}, 6)
        self.check_one(key, {(1, 5): [(0, 100)], (1, 6): [(50, 51)], (1, 7): [(20, 30)]}, 20)
        self.check_one(("key", [1, 0]), {(1, 5, 0): [(0, 9)], (5, 1, 0): [(0, 9)], (1, 6, 0): [(0, 9)]}, None)
        self.check_one(("key", [1, 0]), {(1, 5, 0): [(0, 9)], (5, 1, 0): [(0, 9)], (1, 5, 1): [(8, 9)]}, 8)

    def test_refers(self):
        refers = ("refers", [1], "s")
        self.check_one(refers, {(1, 7): [(3, 9)]}, None, {"s": {(7, "x"): [(3, 9)]}})
        self.check_one(refers, {(1, 7): [(3, 9)]}, None, {"s": {(7, "x"): [(0, 5)], (7, "y"): [(5, END)]}})
        self.check_one(refers, {(1, 7): [(3, 9)]}, 3, {"s": {(7, "x"): [(4, 9)]}})
        self.check_one(refers, {(1, 7): [(3, 9)]}, 8, {"s": {(7, "x"): [(3, 8)]}})
        self.check_one(refers, {(1, 7): [(3, 9)]}, 5, {"s": {(7, "x"): [(0, 5)], (7, "y"): [(6, END)], (8, "y"): [(0, END)]}})
        self.check_one(refers, {(1, 7): [(3, 9)]}, 3, {"s": {}})
        self.check_one(refers, {(1, 7): [(0, END)]}, END - 1, {"s": {(7, "x"): [(0, END - 1)]}})
        self.check_one(refers, {(1, 7): [(6, 9)], (2, 8): [(5, 9)]}, 5, {"s": {}})
        self.check_one(refers, {}, None, {"s": {}})

    def test_refers_to_the_own_table(self):
        refers = ("refers", [1], "t")
        self.check_one(refers, {(1, 1): [(0, END)]}, None)
        self.check_one(refers, {(1, 1): [(0, END)], (2, 1): [(5, 9)]}, None)
        self.check_one(refers, {(1, 2): [(3, 9)], (2, 1): [(3, 8)]}, 8)
        self.check_one(refers, {(1, 2): [(3, 9)], (2, 1): [(2, 9)]}, 2)

    def test_refers_in_the_order_of_the_key(self):
        others = {"s": {(1, "x"): [(0, 9)]}}
        self.check_one(("refers", [0, 1], "s"), {("x", 1): [(0, 9)]}, None, others, {"s": [1, 0]})
        self.check_one(("refers", [1, 0], "s"), {("x", 1): [(0, 9)]}, 0, others, {"s": [1, 0]})
        numbers = {"s": {(1, 2): [(0, 9)], (2, 1): [(3, 9)]}}
        self.check_one(("refers", [0, 1], "s"), {(2, 1): [(1, 9)]}, None, numbers, {"s": [1, 0]})
        self.check_one(("refers", [0, 1], "s"), {(1, 2): [(1, 9)]}, 1, numbers, {"s": [1, 0]})
        self.check_one(("refers", [0, 1], "s"), {(1, 2): [(1, 9)]}, None, numbers, {"s": [0, 1]})

    def test_require(self):
        positive = ("require", ("gt", cell(0, 0), number(0)))
        self.check_one(positive, {(1,): [(0, END)]}, None)
        self.check_one(positive, {(1,): [(0, END)], (0,): [(7, 9)], (-1,): [(6, 7), (20, 30)]}, 6)
        self.check_one(positive, {(0,): [(END - 1, END)]}, END - 1)
        self.check_one(positive, {}, None)
        self.check_one(("require", ("truth", False)), {(1,): [(4, 5)]}, 4)

    def test_most(self):
        most = ("most", 2)
        self.check_one(most, {(n,): [(n, n + 2)] for n in range(20)}, None)
        self.check_one(most, {(n,): [(n, n + 3)] for n in range(20)}, 2)
        self.check_one(most, {(1,): [(0, END)], (2,): [(0, END)], (3,): [(END - 1, END)]}, END - 1)
        self.check_one(most, {(1,): [(0, 5), (9, 12)], (2,): [(4, 10)], (3,): [(5, 9), (20, 21)]}, None)
        self.check_one(most, {(1,): [(0, 5), (9, 12)], (2,): [(4, 11)], (3,): [(5, 10), (20, 21)]}, 9)
        self.check_one(("most", 10 ** 18), {(1,): [(0, END)]}, None)
        self.check_one(("most", 1), {(1,): [(0, END)], (2,): [(0, 1)]}, 0)

    def test_whole(self):
        whole = ("whole",)
        self.check_one(whole, {}, None)
        self.check_one(whole, {(1, 5): [(3, 9)]}, None)
        self.check_one(whole, {(1, 5): [(3, 9)], (1, 6): [(9, 12)], (1, 7): [(0, 3), (12, END)]}, None)
        self.check_one(whole, {(1, 5): [(3, 9), (10, 12)]}, 10)
        self.check_one(whole, {(1, 5): [(3, 9), (10, 12)], (1, 6): [(9, 10)]}, None)
        self.check_one(whole, {(1, 5): [(3, 9)], (1, 6): [(10, 12), (14, 15)]}, 10)
        self.check_one(whole, {(1, 5): [(3, 9)], (1, 6): [(0, 2)]}, 3)
        self.check_one(whole, {(1, 5): [(0, 1), (END - 1, END)]}, END - 1)
        self.check_one(whole, {(1, 5): [(3, 9), (30, 31)], (2, 5): [(3, 9), (20, 21)]}, 20)
        self.check_one(whole, {(1, 5): [(3, 9)], (2, 5): [(20, 21)]}, None)
        self.check_one(whole, {(1, 5): [(3, 9)], (2, 5): [(20, 21)]}, 20, None, {"t": [1]})
        self.check_one(whole, {(1, 5): [(3, 9)], (2, 5): [(20, 21)]}, None, None, {"t": [1, 0]})

    def test_several_rules(self):
        rules = [("t", [("most", 2), ("require", ("gt", cell(0, 1), number(0))), ("key", [0])]),
                 ("s", [("whole",), ("refers", [1], "t")])]
        self.check(rules, {"t": {(1, 0): [(5, 9)]}, "s": {}}, ("t", 1, 5))
        # The least moment counts, in whatever table and rule.
        self.check(rules, {"t": {(1, 0): [(5, 9)]}, "s": {(1, 8): [(4, 9)]}}, ("s", 1, 4))
        # At one moment the table that was made first counts, then its first rule.
        self.check(rules, {"t": {(1, 0): [(5, 9)]}, "s": {(1, 8): [(5, 9)]}}, ("t", 1, 5))
        self.check(rules[::-1], {"t": {(1, 0): [(5, 9)]}, "s": {(1, 8): [(5, 9)]}}, ("s", 1, 5))
        self.check(rules, {"t": {(1, 0): [(5, 9)], (1, 1): [(5, 6)], (1, 2): [(5, 6)]}, "s": {}}, ("t", 0, 5))
        self.check(rules, {"t": {(1, 1): [(5, 9)], (1, 2): [(5, 6)]}, "s": {(1, 1): [(5, 6), (7, 8)]}}, ("t", 2, 5))
        self.check(rules, {"t": {(1, 1): [(5, 9)]}, "s": {(1, 1): [(5, 6), (8, 10)]}}, ("s", 0, 8))
        both = [("t", [("require", ("truth", False)), ("require", ("truth", False))])]
        self.check(both, {"t": {(1,): [(2, 3)]}}, ("t", 0, 2))
        # The order of the dict of the tables does not matter.
        self.check(rules, {"s": {(1, 8): [(5, 9)]}, "t": {(1, 0): [(5, 9)]}}, ("t", 1, 5))

    def test_other_known_numbers_do_not_matter(self):
        tables = {"t": [((1, 5), [(0, 3, [(0, 9)]), (3, 4, [(0, 5)]), (4, OPEN, [(0, 9)])]),
                        ((1, 6), [(0, 3, [(0, 9)]), (3, OPEN, [(5, 9)])])]}
        for known, broken in ((0, ("t", 0, 0)), (2, ("t", 0, 0)), (3, None), (4, ("t", 0, 5)), (OPEN - 1, ("t", 0, 5))):
            self.assertEqual(first_broken([("t", [("key", [0])])], tables, {}, known), broken)

    def test_random_rules(self):
        source = random.Random(71)
        some = 0
        for _ in range(1500):
            rows = {name: self.random_rows(source, most) for name, most in (("t", 2), ("s", 3))}
            rules = [(name, self.random_rules(source)) for name in source.sample(["t", "s"], 2)]
            keys = {"t": source.choice([[0], [1]]), "s": source.choice([[0], [1]])}
            tables = {name: sorted(relation(rows[name]) + [((9, 9), OLD)]) for name in rows}
            broken = Unchanged(self)(first_broken, rules, tables, keys, KNOWN)
            self.assertEqual(broken, self.expected(rules, rows, keys), (rules, rows, keys))
            some += broken is not None
        self.assertTrue(300 < some < 1300, some)

    def random_rows(self, source, most):
        rows = {}
        for _ in range(source.randrange(most + 1)):
            pairs = [sorted(source.sample(range(11), 2)) for _ in range(source.randrange(1, 3))]
            rows[(source.randrange(3), source.randrange(3))] = spans_of([tuple(pair) for pair in pairs])
        return rows

    def random_rules(self, source):
        every = [("key", [0]), ("key", [1]), ("key", [1, 0]), ("refers", [0], "t"), ("refers", [1], "s"), ("most", 1),
                 ("most", 2), ("whole",), ("require", ("le", cell(0, 0), cell(0, 1)))]
        return source.sample(every, source.randrange(4))

    def expected(self, rules, rows, keys):
        for m in range(12):
            now = {name: sorted([row for row in rows[name] if m in integers_of(rows[name][row])]) for name in rows}
            for name, own in rules:
                for index, rule in enumerate(own):
                    if not rule_holds(rule, now[name], now, keys) or rule[0] == "whole" and self.gap(rows[name], keys[name], m):
                        return (name, index, m)
        return None

    def gap(self, rows, columns, m):
        """Whether whole is broken at the moment, by the words of the document."""
        moments = {}
        for row in rows:
            moments.setdefault(tuple([row[at] for at in columns]), set()).update(integers_of(rows[row]))
        return any([m in own and m - 1 not in own and min(own) < m - 1 for own in moments.values()])

    def test_sixty_rows(self):
        rows = {(n, n % 60, n % 7, "x", n * n): [(n * 100, n * 100 + 90), (n * 100 + 90, END)] for n in range(60)}
        rows = {row: spans_of(rows[row]) for row in rows}
        rules = [("t", [("key", [0]), ("key", [1, 2]), ("refers", [1], "t"), ("refers", [1], "s"), ("whole",), ("most", 60),
                        ("require", ("lt", cell(0, 2), number(7))), ("most", 59)]), ("s", [("whole",), ("key", [4])])]
        started = time.perf_counter()
        self.check(rules, {"t": rows, "s": rows}, ("t", 7, 5900))
        self.check(rules[1:], {"t": rows, "s": rows}, None)
        self.assertLess(time.perf_counter() - started, 10)


if __name__ == "__main__":
    unittest.main()
