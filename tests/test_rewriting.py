import random
import unittest

from helpers import MeaningMaker, Unchanged, cell, number, select
from pastamended.plain_answers import plain_answer
from pastamended.rewriting import rewrite, size_of
from pastamended.values import MOST

KINDS = {"t": ["number", "text"], "s": ["number", "number"], "none": ["text", "number"]}
ROWS = {"t": [(1, "a"), (1, "b"), (2, "a"), (5, "c")], "s": [(1, 10), (2, 20), (2, 30)], "none": [("a", 1), ("b", 2)]}
COMPARISONS = {"eq": "ne", "ne": "eq", "lt": "ge", "ge": "lt", "gt": "le", "le": "gt"}
ARITHMETIC = ("add", "sub", "mul", "div", "mod", "neg")
A, B = ("eq", cell(0, 0), number(1)), ("lt", cell(0, 1), ("text", "x"))
TRUE, FALSE = ("truth", True), ("truth", False)


def parts_of(question):
    """All questions and expressions in a question, itself included, each with its tuple."""
    if question[0] != "select":
        return [question] + parts_of(question[1]) + parts_of(question[2])
    _, items, _, where, group, having = question
    return [question] + [part for e in items + (group or []) + [where, having] if e is not None for part in parts_of_e(e)]


def parts_of_e(e):
    if e[0] == "exists":
        return [e] + parts_of(e[1])
    return [e] + [part for operand in e[1:] if isinstance(operand, tuple) for part in parts_of_e(operand)]


class RewritingCase(unittest.TestCase):
    def check_reduced(self, question):
        """Nothing that the document names is left."""
        for part in parts_of(question):
            word, operands = part[0], part[1:]
            words = [operand[0] for operand in operands if isinstance(operand, tuple)]
            if word in ARITHMETIC or word in COMPARISONS:
                self.assertFalse(set(words) <= {"number", "text"}, part)
            if word == "not":
                self.assertNotIn(words[0], ["not", "truth"] + list(COMPARISONS))
            if word in ("and", "or"):
                self.assertNotIn("truth", words)
            if word in COMPARISONS or word in ("union", "intersect"):
                self.assertNotEqual(operands[0], operands[1])
            if word == "select":
                self.assertNotIn(TRUE, (part[3], part[5]))
            if word == "exists" and part[1][0] == "select":
                self.assertNotEqual(part[1][3], FALSE)

    def check(self, question, expected=None):
        found = Unchanged(self)(rewrite, question)
        if expected is not None:
            self.assertEqual(found, expected)
        self.check_reduced(found)
        self.assertEqual(rewrite(found), found)
        self.assertEqual(Unchanged(self)(size_of, question), len(parts_of(question)))
        self.assertLessEqual(size_of(found), size_of(question))
        return found

    def check_where(self, where, expected):
        """Rewrites a where, and the same one inside of exists and of deeper ones."""
        self.check(select([number(1)], ["t"], where), select([number(1)], ["t"], None if expected == TRUE else expected))
        inner = ("exists", select([number(1)], ["t"], where))
        rest = ("exists", select([number(1)], ["t"], None if expected == TRUE else expected))
        if expected == FALSE:
            rest = FALSE
        self.check(select([number(1)], ["s"], inner), select([number(1)], ["s"], rest))
        deep = ("exists", ("except", select([number(1)], ["s"], inner), select([number(1)], ["s"])))
        self.check(select([number(1)], ["s"], deep), select([number(1)], ["s"], (
            "exists", ("except", select([number(1)], ["s"], rest), select([number(1)], ["s"])))))

    def check_item(self, e, expected):
        self.check(select([e, cell(0, 0)], ["t"]), select([expected, cell(0, 0)], ["t"]))
        self.check(select([("sum", e)], ["t"], None, []), select([("sum", expected)], ["t"], None, []))
        square = ("mul", cell(0, 0), cell(0, 0))
        self.check_where(("eq", square, e), ("eq", square, expected))


class ReductionTest(RewritingCase):
    def test_arithmetic_of_numbers(self):
        for word, x, y, z in (("add", 2, 3, 5), ("sub", 2, 3, -1), ("mul", 4, 3, 12), ("div", -7, 2, -4), ("mod", -7, 2, 1),
                              ("div", 7, 0, 0), ("mod", 7, 0, 7), ("add", MOST, 1, -MOST)):
            self.check_item((word, number(x), number(y)), number(z))
        self.check_item(("neg", number(3)), number(-3))
        self.check_item(("neg", ("neg", number(3))), number(3))
        self.check_item(("add", ("mul", number(2), number(3)), ("neg", ("sub", number(1), number(5)))), number(10))
        self.check_item(("add", cell(0, 0), ("mul", number(2), number(3))), ("add", cell(0, 0), number(6)))
        self.check_item(("add", ("add", cell(0, 0), number(2)), number(3)), ("add", ("add", cell(0, 0), number(2)), number(3)))

    def test_what_stays(self):
        for e in (cell(0, 0), ("neg", cell(0, 0)), ("sub", cell(0, 0), cell(0, 0)), ("mul", cell(0, 0), number(0))):
            self.check_item(e, e)
        for where in (A, ("and", A, B), ("or", A, B), ("and", A, A), ("not", ("and", A, B)), ("not", ("or", A, A)),
                      ("exists", select([number(1)], ["s"])), ("not", ("exists", select([number(1)], ["s"], A)))):
            self.check_where(where, where)

    def test_gatherings_of_numbers_stay(self):
        items = [("sum", number(2)), ("count",), ("least", number(3))]
        self.check(select(items, ["t"], None, []), select(items, ["t"], None, []))
        self.check(select([("greatest", ("add", number(1), number(2)))], ["t"], None, []),
                   select([("greatest", number(3))], ["t"], None, []))

    def test_comparisons_of_numbers_and_texts(self):
        for word, truths in (("eq", "010"), ("ne", "101"), ("lt", "100"), ("le", "110"), ("gt", "001"), ("ge", "011")):
            for (x, y), truth in zip([(1, 2), (2, 2), (2, 1)], truths):
                self.check_where((word, number(x), number(y)), ("truth", truth == "1"))
                self.check_where((word, ("text", "abc"[x]), ("text", "abc"[y])), ("truth", truth == "1"))
        self.check_where(("lt", ("add", number(1), number(2)), number(4)), TRUE)

    def test_comparisons_of_equal_operands(self):
        for e in (cell(0, 0), cell(0, 0, 1), ("add", cell(0, 0), number(1)), ("neg", ("neg", cell(0, 0)))):
            for word in COMPARISONS:
                self.check(select([number(1)], ["t"], (word, e, e)),
                           select([number(1)], ["t"], None if word in ("eq", "le", "ge") else FALSE))
        self.check_where(("eq", ("add", cell(0, 0), number(3)), ("add", cell(0, 0), ("add", number(1), number(2)))), TRUE)
        self.check_where(("eq", cell(0, 0), cell(1, 0)), ("eq", cell(0, 0), cell(1, 0)))
        self.check_where(("eq", cell(0, 0), cell(0, 0, 1)), ("eq", cell(0, 0), cell(0, 0, 1)))

    def test_not(self):
        for word, other in COMPARISONS.items():
            self.check_where(("not", (word, cell(0, 0), number(1))), (other, cell(0, 0), number(1)))
            self.check_where(("not", ("not", (word, cell(0, 0), number(1)))), (word, cell(0, 0), number(1)))
        self.check_where(("not", TRUE), FALSE)
        self.check_where(("not", FALSE), TRUE)
        self.check_where(("not", ("not", ("and", A, B))), ("and", A, B))
        self.check_where(("not", ("not", ("not", ("or", A, B)))), ("not", ("or", A, B)))
        self.check_where(("not", ("and", A, TRUE)), ("ne", cell(0, 0), number(1)))
        self.check_where(("not", ("and", ("not", ("or", A, B)), TRUE)), ("or", A, B))

    def test_and_and_or(self):
        for e in (A, ("and", A, B), ("not", ("or", A, B)), TRUE, FALSE):
            self.check_where(("and", e, TRUE), e)
            self.check_where(("and", TRUE, e), e)
            self.check_where(("and", e, FALSE), FALSE)
            self.check_where(("and", FALSE, e), FALSE)
            self.check_where(("or", e, TRUE), TRUE)
            self.check_where(("or", TRUE, e), TRUE)
            self.check_where(("or", e, FALSE), e)
            self.check_where(("or", FALSE, e), e)
        self.check_where(("or", ("and", ("eq", number(1), number(2)), A), ("and", B, ("not", ("lt", number(2), number(1))))), B)

    def test_having(self):
        for having, expected in ((TRUE, None), (("eq", ("count",), ("count",)), None), (FALSE, FALSE),
                                 (("not", ("gt", ("count",), number(1))), ("le", ("count",), number(1))),
                                 (("gt", ("sum", ("add", number(1), number(1))), number(1)), ("gt", ("sum", number(2)), number(1)))):
            for group in ([], [cell(0, 0)]):
                self.check(select([number(1)], ["t"], None, group, having), select([number(1)], ["t"], None, group, expected))

    def test_unions_and_intersects_of_equal_questions(self):
        one, two = select([cell(0, 0)], ["t"]), select([cell(0, 0)], ["s"])
        for word in ("union", "intersect"):
            self.check((word, one, one), one)
            self.check((word, one, two), (word, one, two))
            self.check((word, select([cell(0, 0)], ["t"], TRUE), one), one)
            self.check((word, (word, one, one), (word, one, one)), one)
            self.check((word, (word, one, two), (word, one, two)), (word, one, two))
            self.check(("except", (word, one, one), two), ("except", one, two))
            self.check(select([number(1)], ["s"], ("exists", (word, one, one))), select([number(1)], ["s"], ("exists", one)))
        self.check(("except", one, one), ("except", one, one))

    def test_exists_without_rows(self):
        empty = select([number(1)], ["t"], ("gt", number(1), number(2)))
        self.check_where(("exists", empty), FALSE)
        self.check_where(("not", ("exists", empty)), TRUE)
        self.check_where(("or", ("exists", empty), A), A)
        self.check_where(("exists", ("union", empty, empty)), FALSE)
        self.check_where(("exists", select([("count",)], ["t"], FALSE, [])), FALSE)
        self.check_where(("exists", select([number(1)], ["t"], ("exists", empty))), FALSE)
        self.check(select([cell(0, 0)], ["t"], FALSE), select([cell(0, 0)], ["t"], FALSE))

    def test_parts_that_are_no_conditions_stay(self):
        question = select([("neg", cell(0, 0)), ("text", "x"), ("count",)], ["t", "s"], None, [cell(0, 0), cell(1, 1)])
        self.check(question, question)

    def test_deep_trees(self):
        condition, other, e = ("and", A, B), A, cell(0, 0)
        for n in range(180):
            condition = ("not", condition)
            other = (("and", TRUE, other), ("or", other, FALSE), ("not", ("not", other)))[n % 3]
            e = ("neg", e)
        self.check_where(condition, ("and", A, B))
        self.check(select([e], ["t"], other), select([e], ["t"], A))
        question = select([number(1)], ["t"], A)
        for _ in range(20):
            question = select([number(1)], ["t"], ("not", ("not", ("exists", question))))
        self.assertEqual(size_of(self.check(question)), 3 * 20 + 5)


class SizeTest(unittest.TestCase):
    def check(self, question, size):
        self.assertEqual(Unchanged(self)(size_of, question), size)

    def test_sizes(self):
        self.check(select([cell(0, 0)], ["t"]), 2)
        self.check(select([cell(0, 0), number(1), ("text", "x")], ["t", "s"]), 4)
        self.check(select([("add", cell(0, 0), ("neg", number(1)))], ["t"], ("truth", False)), 6)
        self.check(select([cell(0, 0), ("count",)], ["t"], None, [cell(0, 0), cell(0, 1)]), 5)
        self.check(select([("sum", cell(0, 0))], ["t"], None, [], ("gt", ("count",), number(1))), 6)
        one = select([cell(0, 0)], ["t"])
        for word in ("union", "except", "intersect"):
            self.check((word, one, (word, one, one)), 8)
        self.check(select([cell(0, 0)], ["t"], ("not", ("exists", ("union", one, one)))), 9)


class RandomQuestionsTest(RewritingCase):
    def test_random_questions(self):
        source = random.Random(91)
        maker = MeaningMaker(source, KINDS)
        shorter = 0
        for _ in range(1500):
            outer = [[source.choice(["t", "s"])] for _ in range(source.randrange(3))]
            question = maker.question(maker.kinds(), outer, 4)
            found = self.check(question)
            shorter += size_of(found) < size_of(question)
            for _ in range(4):
                tables = {name: [row for row in ROWS[name] if source.random() < 0.6] for name in ROWS}
                levels = [[source.choice(ROWS[name]) for name in names] for names in outer]
                self.assertEqual(plain_answer(found, tables, levels), plain_answer(question, tables, levels), question)
            self.assertEqual(plain_answer(found, {name: [] for name in ROWS}, levels), [])
        self.assertTrue(600 < shorter < 1450, shorter)


if __name__ == "__main__":
    unittest.main()
