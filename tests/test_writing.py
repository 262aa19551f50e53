import random
import unittest

from helpers import Unchanged, joined, random_statement, with_places
from pastamended.errors import SyntaxFault
from pastamended.reading import read_statement
from pastamended.trees import bare
from pastamended.words import words
from pastamended.writing import write_statement


def rewritten(text):
    return write_statement(read_statement(text))


def spaced(text):
    """The words of a text with the spaces that the written form has."""
    result, before = "", ""
    for sort, value, _ in words(text):
        word = f'"{value}"' if sort == "text" else str(value)
        close = before in ("", "(", ".") or word in (")", ",", ".")
        result += word if close else " " + word
        before = word
    return result


def without_pairs(text):
    """The texts that lack one pair of parentheses of a text each."""
    opened, found, quoted = [], [], False
    for at, character in enumerate(text):
        quoted = quoted != (character == '"')
        if character == "(" and not quoted:
            opened.append(at)
        if character == ")" and not quoted:
            begin = opened.pop()
            found.append(text[:begin] + " " + text[begin + 1:at] + " " + text[at + 1:])
    return found


class WrittenFormTest(unittest.TestCase):
    def check(self, text, written):
        self.assertEqual(rewritten(text), written)
        self.assertEqual(rewritten(written), written)

    def test_example(self):
        self.check("select (a+b)*2 as c,count from t where((a=1))and not(b=2 or a=b)from 0 to 1000000",
                   "select (a + b) * 2 as c, count from t where a = 1 and not (b = 2 or a = b) always")

    def test_table(self):
        self.check("table t(a number,b text)key(a,b)refers(b)to s require(a>1)most 07 whole",
                   "table t (a number, b text) key (a, b) refers (b) to s require a > 1 most 7 whole")
        self.check("table\nt ( a number )", "table t (a number)")

    def test_insert(self):
        self.check('insert t(1,"a  b"),((2),-3)at 5', 'insert t (1, "a  b"), (2, - 3) at 5')

    def test_update_and_delete(self):
        self.check("update t set a=(1),b=(a=2)where(c)at 5", "update t set a = 1, b = a = 2 where c at 5")
        self.check("delete t always", "delete t always")
        self.check("delete t where t . a=1 at 0", "delete t where t.a = 1 at 0")

    def test_spans(self):
        spans = [("from 0 to 1000000", "always"), ("from 0", "always"), ("always", "always"), ("at 0", "at 0"),
                 ("from 5 to 6", "at 5"), ("from 999999", "at 999999"), ("from 5", "from 5"),
                 ("from 5 to 1000000", "from 5"), ("from 5 to 7", "from 5 to 7"), ("from 7 to 5", "from 7 to 5"),
                 ("from 5 to 5", "from 5 to 5"), ("from 1000000", "from 1000000"), ("at 1000000", "at 1000000"),
                 ("from 0 to 1", "at 0"), ("from 0 to 2", "from 0 to 2"), ("at 007", "at 7")]
        for span, written in spans:
            self.check(f"delete t {span}", f"delete t {written}")
            self.check(f"select a from t {span}", f"select a from t {written}")

    def test_known_parts(self):
        parts = [("known 5", "known 5"), ("known 5 to 6", "known 5"), ("known 5 to 7", "known 5 to 7"),
                 ("known 6 to 5", "known 6 to 5"), ("known 0 to 1000000", "known 0 to 1000000")]
        for known, written in parts:
            self.check(f"select a from t {known}", f"select a from t {written}")
            self.check(f"select a from t at 3 {known}", f"select a from t at 3 {written}")

    def test_questions(self):
        self.check("select a as b,t.b from t as t,t as s where a group a,t.b having count>1",
                   "select a as b, t.b from t, t as s where a group a, t.b having count > 1")
        self.check("select a from t union select b from s except select c from u intersect select d from v",
                   "select a from t union select b from s except select c from u intersect select d from v")
        self.check("select sum((a)+b),least(a),greatest((a))from t",
                   "select sum (a + b), least (a), greatest (a) from t")
        self.check("delete t where exists(select a from t where exists(select b from s))at 5",
                   "delete t where exists (select a from t where exists (select b from s)) at 5")

    def test_needless_parentheses(self):
        for text in ("a + b + c", "a * b div c mod d", "a and b and c", "a or b or c", "a or b and c", "a + b * c",
                     "a * b + c", "a = b + c", "a = b and c = d", "not a = b", "not a and b", "a and not b",
                     "not not a", "- - a", "- a * b", "a - - b", "a + - b * c", "not exists (select a from t)",
                     "exists (select a from t) and a", "sum (a) + count"):
            self.assertEqual(rewritten(f"delete t where {text} at 5"), f"delete t where {text} at 5")
        for text, written in (("(a + b) + c", "a + b + c"), ("(a and b) and c", "a and b and c"),
                              ("a or (b and c)", "a or b and c"), ("not (a = b)", "not a = b"),
                              ("(not a) and (not b)", "not a and not b"), ("- (- (a))", "- - a"),
                              ("(- a) * (- b)", "- a * - b"), ("not (not (a))", "not not a"),
                              ("sum (((a)))", "sum (a)"), ("(((t.a))) = (1)", "t.a = 1")):
            self.check(f"delete t where {text} at 5", f"delete t where {written} at 5")

    def test_needed_parentheses(self):
        for text in ("a + (b + c)", "a - (b - c)", "a * (b * c)", "a div (b div c)", "a and (b and c)",
                     "a or (b or c)", "(a or b) and c", "a and (b or c)", "(a + b) * c", "a * (b + c)", "- (a + b)",
                     "- (a * b)", "(a = b) = c", "a = (b = c)", "(not a) = b", "a = (not b)", "not (a and b)",
                     "(not a) + b", "a + (not b)", "- (not a)", "(exists (select a from t)) = b",
                     "- (a + b) * c", "sum ((a + b) * c)", "(a = b) + 1"):
            self.assertEqual(rewritten(f"delete t where {text} at 5"), f"delete t where {text} at 5")

    def test_every_pair_of_operators(self):
        signs = ["+", "-", "*", "div", "mod", "=", "<>", "<", "<=", ">", ">=", "and", "or"]
        for first in signs:
            for second in signs:
                for text in (f"(a {first} b) {second} c", f"a {first} (b {second} c)"):
                    self.check_pairs(f"delete t where {text} at 5")
            for text in (f"- (a {first} b)", f"(- a) {first} b", f"a {first} (- b)", f"not (a {first} b)",
                         f"(not a) {first} b", f"a {first} (not b)", f"a {first} (exists (select a from t))",
                         f"(exists (select a from t)) {first} b", f"sum (a {first} b)"):
                self.check_pairs(f"delete t where {text} at 5")

    def check_pairs(self, text):
        """The text is read again as itself, and without any pair of its parentheses otherwise."""
        tree = read_statement(text)
        written = Unchanged(self)(write_statement, tree)
        self.assertEqual(bare(read_statement(written)), bare(tree), text)
        self.assertEqual(write_statement(read_statement(written)), written)
        self.assertEqual(spaced(written), written)
        self.assertLessEqual(len(words(written)), len(words(text)))
        for other in without_pairs(written):
            self.assertFalse(self.reads_as(other, bare(tree)), f"{written} has needless parentheses")

    def reads_as(self, text, tree):
        try:
            return bare(read_statement(text)) == tree
        except SyntaxFault:
            return False

    def test_places_are_ignored(self):
        tree = read_statement("update t set a = - 1 where not (a = 1) from 5 to 9")
        self.assertEqual(write_statement(bare(tree)), write_statement(tree))

    def test_random_statements(self):
        source = random.Random(11)
        for _ in range(800):
            row, tree = random_statement(source)
            text, _ = joined(row, source)
            self.assertEqual(bare(read_statement(rewritten(text))), with_places(tree, lambda index: 0))
            self.check_pairs(text)

    def test_long_chains(self):
        for text in ("- " * 190 + "a", "not " * 190 + "a", "a" + " or a" * 90, "(- " * 20 + "a" + ")" * 20):
            self.check_pairs(f"delete t where {text} always")


if __name__ == "__main__":
    unittest.main()
