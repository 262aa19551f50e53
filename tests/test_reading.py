import random
import unittest

from helpers import KEYWORDS, Recognizer, joined, random_statement, with_places
from pastamended.errors import SyntaxFault
from pastamended.reading import read_statement
from pastamended.trees import bare
from pastamended.words import words

END = 1000000
LOOSE_WORDS = KEYWORDS + ["a", "b", "1", "20", '"x"'] + "( ) , . + - * = <> < <= > >= ?".split()


def name(place, column, source=""):
    return ("name", place, source, column)


def tree_of(e):
    """The bare tree of an expression's text."""
    return bare(read_statement(f"delete t where {e} always"))[4]


def expected_fault(text):
    """The place of the fault by the grammar and the bounds alone, or None."""
    row = words(text)
    faults = [Recognizer(row).fault()]
    faults += [200] if len(row) > 200 else []
    depth = 0
    for at, word in enumerate(row):
        depth += {"(": 1, ")": -1}.get(word[1] if word[0] == "sign" else "", 0)
        if depth > 20:
            faults.append(at)
            break
    faults = [at for at in faults if at is not None]
    if not faults:
        return None
    return row[min(faults)][2] if min(faults) < len(row) else len(text)


def fault_of(text):
    try:
        read_statement(text)
    except SyntaxFault as fault:
        return fault.place
    return None


class TreesOfStatementsTest(unittest.TestCase):
    def check(self, text, tree):
        self.assertEqual(read_statement(text), tree)

    def test_example(self):
        self.check("delete staff where pay < 3 from 5",
                   ("delete", 0, "staff", 7, ("lt", 19, name(19, "pay"), ("number", 25, 3)), (27, 5, END)))

    def test_table(self):
        self.check("table t (a number)", ("table", 0, "t", 6, [("a", 9, "number")], []))
        self.check(" table t(a number,b text)", ("table", 1, "t", 7, [("a", 9, "number"), ("b", 18, "text")], []))

    def test_rules(self):
        head = "table t (a text) "
        rules = [
            ("key (a)", ("key", 17, [("a", 22)])),
            ("key (a, b)", ("key", 17, [("a", 22), ("b", 25)])),
            ("refers (a, b) to s", ("refers", 17, [("a", 25), ("b", 28)], "s", 34)),
            ("require (a = 1)", ("require", 17, ("eq", 26, name(26, "a"), ("number", 30, 1)))),
            ("most 007", ("most", 17, 7, 22)),
            ("whole", ("whole", 17)),
        ]
        for text, tree in rules:
            self.check(head + text, ("table", 0, "t", 6, [("a", 9, "text")], [tree]))
        self.check(head + "whole most 0 whole",
                   ("table", 0, "t", 6, [("a", 9, "text")], [("whole", 17), ("most", 23, 0, 28), ("whole", 30)]))
        self.check(head + "require a require b",
                   ("table", 0, "t", 6, [("a", 9, "text")], [("require", 17, name(25, "a")),
                                                             ("require", 27, name(35, "b"))]))

    def test_insert(self):
        self.check("insert t (1) always", ("insert", 0, "t", 7, [(9, [("number", 10, 1)])], (13, 0, END)))
        self.check('insert t (1, "b"), ((2)) at 5',
                   ("insert", 0, "t", 7, [(9, [("number", 10, 1), ("text", 13, "b")]), (19, [("number", 21, 2)])],
                    (25, 5, 6)))

    def test_update(self):
        self.check("update t set a = 1, b = a = 2 where c at 3",
                   ("update", 0, "t", 7,
                    [("a", 13, ("number", 17, 1)), ("b", 20, ("eq", 24, name(24, "a"), ("number", 28, 2)))],
                    name(36, "c"), (38, 3, 4)))
        self.check("update t set a = 1 always", ("update", 0, "t", 7, [("a", 13, ("number", 17, 1))], None, (19, 0, END)))

    def test_delete(self):
        self.check("delete t always", ("delete", 0, "t", 7, None, (9, 0, END)))

    def test_spans(self):
        spans = [("from 3 to 7", (9, 3, 7)), ("from 3", (9, 3, END)), ("at 3", (9, 3, 4)), ("always", (9, 0, END)),
                 ("from 7 to 3", (9, 7, 3)), ("from 0 to 1000000", (9, 0, END)),
                 ("at 1000000000000000000", (9, 10 ** 18, 10 ** 18 + 1)), ("from 3 to 4", (9, 3, 4))]
        for text, span in spans:
            self.check(f"delete t {text}", ("delete", 0, "t", 7, None, span))

    def test_ask(self):
        select = ("select", 0, [(name(7, "a"), "")], [("t", 14, "t", 14)], None, None, None)
        self.check("select a from t", ("ask", 0, select, None, None))
        self.check("select a from t at 3", ("ask", 0, select, (16, 3, 4), None))
        self.check("select a from t from 3", ("ask", 0, select, (16, 3, END), None))
        self.check("select a from t known 3", ("ask", 0, select, None, (16, 3, 4)))
        self.check("select a from t known 3 to 9", ("ask", 0, select, None, (16, 3, 9)))
        self.check("select a from t always known 9 to 3", ("ask", 0, select, (16, 0, END), (23, 9, 3)))

    def test_select(self):
        self.check("select a as b, count from t as s, u where a group s.b, c having d",
                   ("ask", 0, ("select", 0, [(name(7, "a"), "b"), (("count", 15), "")],
                               [("t", 26, "s", 31), ("u", 34, "u", 34)], name(42, "a"),
                               [name(50, "b", "s"), name(55, "c")], name(64, "d")), None, None))
        self.check("select a from t having d",
                   ("ask", 0, ("select", 0, [(name(7, "a"), "")], [("t", 14, "t", 14)], None, None, name(23, "d")),
                    None, None))

    def test_unions_associate_to_the_left(self):
        def select(place):
            return ("select", place, [(name(place + 7, "a"), "")], [("t", place + 14, "t", place + 14)],
                    None, None, None)
        for first in ("union", "except", "intersect"):
            for second in ("union", "except", "intersect"):
                text = f"select a from t {first} select a from t {second} select a from t"
                places = [at for at in range(len(text)) if text.startswith("select", at)]
                tree = (second, 0, (first, 0, select(0), select(places[1])), select(places[2]))
                self.check(text, ("ask", 0, tree, None, None))


class TreesOfExpressionsTest(unittest.TestCase):
    def test_leaves(self):
        self.assertEqual(tree_of("a"), name(0, "a"))
        self.assertEqual(tree_of("t . a"), name(0, "a", "t"))
        self.assertEqual(tree_of("007"), ("number", 0, 7))
        self.assertEqual(tree_of('"a b"'), ("text", 0, "a b"))
        self.assertEqual(tree_of("count"), ("count", 0))

    def test_operators(self):
        a, b = name(0, "a"), name(0, "b")
        signs = {"+": "add", "-": "sub", "*": "mul", "div": "div", "mod": "mod", "=": "eq", "<>": "ne", "<": "lt",
                 "<=": "le", ">": "gt", ">=": "ge", "and": "and", "or": "or"}
        for sign, word in signs.items():
            self.assertEqual(tree_of(f"a {sign} b"), (word, 0, a, b))
        self.assertEqual(tree_of("- a"), ("neg", 0, a))
        self.assertEqual(tree_of("not a"), ("not", 0, a))
        for word in ("sum", "least", "greatest"):
            self.assertEqual(tree_of(f"{word}(a = b)"), (word, 0, ("eq", 0, a, b)))

    def test_operators_of_one_line_associate_to_the_left(self):
        signs = {"+": "add", "-": "sub", "*": "mul", "div": "div", "mod": "mod", "and": "and", "or": "or"}
        lines = [("+", "-"), ("*", "div", "mod"), ("and",), ("or",)]
        a, b, c = [name(0, one) for one in "abc"]
        for line in lines:
            for first in line:
                for second in line:
                    self.assertEqual(tree_of(f"a {first} b {second} c"), (signs[second], 0, (signs[first], 0, a, b), c))
                    self.assertEqual(tree_of(f"a {first} (b {second} c)"), (signs[first], 0, a, (signs[second], 0, b, c)))

    def test_lines_bind_ever_tighter(self):
        a, b, c = [name(0, one) for one in "abc"]
        self.assertEqual(tree_of("a + b * c"), ("add", 0, a, ("mul", 0, b, c)))
        self.assertEqual(tree_of("a * b + c"), ("add", 0, ("mul", 0, a, b), c))
        self.assertEqual(tree_of("a = b + c"), ("eq", 0, a, ("add", 0, b, c)))
        self.assertEqual(tree_of("a = b and c"), ("and", 0, ("eq", 0, a, b), c))
        self.assertEqual(tree_of("a or b and c"), ("or", 0, a, ("and", 0, b, c)))
        self.assertEqual(tree_of("not a = b"), ("not", 0, ("eq", 0, a, b)))
        self.assertEqual(tree_of("not a and b"), ("and", 0, ("not", 0, a), b))
        self.assertEqual(tree_of("- a * b"), ("mul", 0, ("neg", 0, a), b))
        self.assertEqual(tree_of("a - - b"), ("sub", 0, a, ("neg", 0, b)))
        self.assertEqual(tree_of("not not a"), ("not", 0, ("not", 0, a)))
        self.assertEqual(tree_of("(not a) + (b = c)"), ("add", 0, ("not", 0, a), ("eq", 0, b, c)))

    def test_places_pass_over_opening_parentheses(self):
        tree = read_statement("delete t where ((a) + (- b)) * (2) = ((not c)) always")[4]
        total = ("add", 17, name(17, "a"), ("neg", 23, name(25, "b")))
        self.assertEqual(tree, ("eq", 17, ("mul", 17, total, ("number", 32, 2)), ("not", 39, name(43, "c"))))

    def test_exists(self):
        tree = read_statement("delete t where (exists (select a from t where exists (select 1 from s))) always")[4]
        inner = ("select", 54, [(("number", 61, 1), "")], [("s", 68, "s", 68)], None, None, None)
        self.assertEqual(tree, ("exists", 16, ("select", 24, [(name(31, "a"), "")], [("t", 38, "t", 38)],
                                               ("exists", 46, inner), None, None)))
        question = tree_of("exists (select a from t union select b from s)")[2]
        self.assertEqual(question[0], "union")

    def test_long_chains(self):
        self.assertEqual(tree_of("- " * 190 + "a")[:2], ("neg", 0))
        self.assertEqual(tree_of("not " * 190 + "a")[:2], ("not", 0))
        self.assertEqual(tree_of("(not (- " * 10 + "a" + "))" * 10)[:2], ("not", 0))


class FaultsTest(unittest.TestCase):
    def check(self, text, place):
        with self.assertRaises(SyntaxFault) as caught:
            read_statement(text)
        self.assertEqual(caught.exception.place, place, text)
        self.assertEqual(expected_fault(text), place, text)

    def test_example(self):
        self.check("delete staff where from 5", 19)

    def test_faults_at_the_first_word(self):
        for text in ("a", "from", "5", '"a"', "(select a from t)", "known", "Select a from t", "?", "where", ")"):
            self.check(text, 0)
        self.check(" \n a", 3)

    def test_faults_inside(self):
        cases = [("table table (a number)", 6), ("table t (a count)", 11), ("table t (a number,)", 18),
                 ("table t () whole", 9), ("table t (a text) key a", 21), ("table t (a text) most a", 22),
                 ("insert t 1 at 5", 9), ("insert t (1,) at 5", 12), ("insert t () at 5", 10),
                 ("update t a = 1 at 5", 9), ("update t set a < 1 at 5", 15), ("update t set t.a = 1 at 5", 14),
                 ("delete t where a = b = c at 5", 21), ("delete t where a = not b at 5", 19),
                 ("delete t where sum a at 5", 19), ("delete t where count (a) at 5", 21),
                 ("delete t where exists select a from t at 5", 22), ("delete t where exists (a) at 5", 23),
                 ("select a from t from t", 21), ("select a from t where", 21), ("select a from (t)", 14),
                 ("select a from t having b where c", 25), ("select a from t group a where c", 24),
                 ("select a from t group (a)", 22), ("select a from t group a + b", 24),
                 ("select a b from t", 9), ("select a as count from t", 12), ("select from t", 7),
                 ("select a from t known 3 always", 24), ("select a from t at -3", 19), ("select a.b.c from t", 10)]
        for text, place in cases:
            self.check(text, place)

    def test_faults_at_the_last_word(self):
        cases = [("table t (a number) key (a) union", 27), ("delete t always always", 16), ("delete t at 5 to", 14),
                 ("select a from t)", 15), ("select a from t at 5 x", 21), ("delete t at 5?", 13),
                 ("select a from t known 3 to b", 27), ("delete t at -", 12)]
        for text, place in cases:
            self.check(text, place)

    def test_texts_that_end_too_early(self):
        for text in ("", " ", "table", "table t", "table t (a", "table t (a number", "insert t (1)", "insert t (1) ",
                     "update t set a = 1", "delete t", "delete t where a ", "delete t from", "delete t from 3 to\n",
                     "select", "select a", "select a from", "select a from t,", "select a from t union",
                     "select a from t known", "delete t where not", "delete t where (a", "select t."):
            self.check(text, len(text))

    def test_bad_words(self):
        self.check("delete t where a = " + "b" * 21 + " at 5", 19)
        self.check("delete t at " + "0" * 31, 12)
        self.check("delete t at 1000000000000000001", 12)
        self.check('insert t ("a) at 5', 10)
        self.check("delete t at 5 A", 14)

    def test_every_cut_off_statement(self):
        source = random.Random(7)
        for _ in range(60):
            row, _ = random_statement(source, 40)
            for count in range(len(row)):
                text = " ".join(row[:count])
                self.assertEqual(fault_of(text), expected_fault(text), text)

    def test_random_faults(self):
        source = random.Random(8)
        for _ in range(3000):
            row, _ = random_statement(source, 60)
            for _ in range(source.randrange(1, 3)):
                at = source.randrange(len(row))
                words_there = source.choice([[], [source.choice(LOOSE_WORDS)], [source.choice(LOOSE_WORDS), row[at]],
                                             [source.choice(row)], row[at:at + 1] * 2])
                row = row[:at] + words_there + row[at + 1:]
                if not row:
                    break
            text = " ".join(row)
            self.assertEqual(fault_of(text), expected_fault(text), text)


class BoundsTest(unittest.TestCase):
    def test_200_words(self):
        text = "delete t where " + "- " * 195 + "a always"
        self.assertEqual(len(words(text)), 200)
        self.assertIsNone(fault_of(text))

    def test_201_words(self):
        text = "delete t where " + "- " * 196 + "a always"
        self.assertEqual(len(words(text)), 201)
        self.assertEqual(fault_of(text), text.index("always"))
        self.assertEqual(fault_of(text + " always"), text.index("always"))
        self.assertEqual(fault_of("delete t where " + "- " * 300), len("delete t where ") + 2 * 197)

    def test_200_words_that_end_too_early(self):
        text = "delete t where " + "- " * 197
        self.assertEqual(len(words(text)), 200)
        self.assertEqual(fault_of(text), len(text))

    def test_an_earlier_fault_counts(self):
        text = "delete t where " + "- " * 100 + "a b " + "- " * 200
        self.assertEqual(fault_of(text), text.index("b"))

    def test_20_unclosed_parentheses(self):
        text = "delete t where " + "(" * 20 + "a" + ")" * 20 + " always"
        self.assertIsNone(fault_of(text))
        self.assertIsNone(fault_of("delete t where " + "(a) + " * 30 + "a always"))

    def test_21_unclosed_parentheses(self):
        text = "delete t where " + "(" * 21 + "a" + ")" * 21 + " always"
        self.assertEqual(fault_of(text), 35)
        self.assertEqual(fault_of("delete t where " + "(" * 21), 35)
        self.assertEqual(fault_of("delete t where " + "(" * 20), 35)
        self.assertEqual(fault_of("delete t where a b " + "(" * 21), 17)
        self.assertEqual(fault_of("delete t where exists (("), 23)

    def test_closed_parentheses_do_not_count(self):
        start = "delete t where (a) + ((a) * (b)) + "
        self.assertIsNone(fault_of(start + "(" * 20 + "a" + ")" * 20 + " always"))
        self.assertEqual(fault_of(start + "(" * 21 + "a" + ")" * 21 + " always"), len(start) + 20)

    def test_parentheses_of_all_sorts_count(self):
        text = "insert t (" + "sum (" * 19 + "a" + ")" * 20 + " always"
        self.assertIsNone(fault_of(text))
        text = "insert t (" + "sum (" * 20 + "a" + ")" * 21 + " always"
        self.assertEqual(fault_of(text), 10 + 5 * 20 - 1)
        text = "insert t (1), (2), (" + "(" * 19 + "a" + ")" * 20 + " always"
        self.assertIsNone(fault_of(text))
        deep = "select a from t where exists (" * 18 + "select ((a)) from t" + ")" * 18
        self.assertIsNone(fault_of(deep))
        deep = "select a from t where exists (" * 19 + "select ((a)) from t" + ")" * 19
        self.assertEqual(fault_of(deep), deep.index("((") + 1)


class RandomStatementsTest(unittest.TestCase):
    def test_random_statements(self):
        source = random.Random(9)
        for _ in range(1500):
            row, tree = random_statement(source)
            text, places = joined(row, source)
            self.assertEqual(read_statement(text), with_places(tree, lambda index: places[index]), text)


if __name__ == "__main__":
    unittest.main()
