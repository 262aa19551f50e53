import fractions
import itertools
import math
import random
import unittest

from helpers import MeaningMaker, Unchanged, cell, number, select
from pastamended.plain_answers import plain_answer, value_of
from pastamended.values import MOST, wrap

TABLES = {
    "t": [(1, "a"), (1, "b"), (2, "a"), (5, "c")],
    "s": [(1, 10), (2, 20), (2, 30)],
    "none": [],
}
KINDS = {"t": ["number", "text"], "s": ["number", "number"], "none": ["text", "number"]}


class ValueTest(unittest.TestCase):
    def check(self, e, value, levels=()):
        found = Unchanged(self)(value_of, e, levels, TABLES)
        self.assertEqual((found, found.__class__), (value, value.__class__))

    def test_leaves(self):
        self.check(number(7), 7)
        self.check(("text", "a b"), "a b")
        self.check(("truth", True), True)
        self.check(("truth", False), False)

    def test_cells(self):
        levels = [[(1, "a"), (2, 3)], [("b",)], [(4, 5, 6)]]
        for some in (levels, tuple(levels)):
            self.check(cell(0, 2), 6, some)
            self.check(cell(0, 0, 1), "b", some)
            self.check(cell(0, 1, 2), "a", some)
            self.check(cell(1, 0, 2), 2, some)
        self.check(("add", cell(0, 0), cell(0, 0, 1)), 7, [[(3,)], [(4,)]])

    def test_arithmetic(self):
        cases = [("add", 2, 3, 5), ("sub", 2, 3, -1), ("mul", -2, 3, -6), ("div", -7, 2, -4), ("mod", -7, 2, 1),
                 ("mod", 7, -2, -1), ("div", 7, 0, 0), ("mod", -7, 0, -7), ("add", MOST, 1, -MOST),
                 ("sub", -MOST, 1, MOST), ("mul", MOST, 2, -1), ("mul", MOST, MOST, wrap(MOST * MOST)),
                 ("div", -MOST, -1, MOST)]
        for word, x, y, z in cases:
            self.check((word, number(x), number(y)), z)
        self.check(("neg", number(MOST)), -MOST)
        self.check(("neg", ("neg", number(3))), 3)
        self.check(("neg", number(0)), 0)

    def test_comparisons(self):
        pairs = [(1, 2), (2, 1), (2, 2), (-5, 3), ("a", "b"), ("b", "a"), ("a", "a"), ("", "a"), ("Z", "a"), ("10", "9")]
        for x, y in pairs:
            sort = "text" if isinstance(x, str) else "number"
            for word, value in (("eq", x == y), ("ne", x != y), ("lt", x < y), ("le", x <= y), ("gt", x > y),
                                ("ge", x >= y)):
                self.check((word, (sort, x), (sort, y)), value)

    def test_conditions(self):
        for x, y in itertools.product([True, False], repeat=2):
            self.check(("and", ("truth", x), ("truth", y)), x and y)
            self.check(("or", ("truth", x), ("truth", y)), x or y)
        self.check(("not", ("truth", True)), False)
        self.check(("not", ("eq", number(1), number(2))), True)
        self.check(("and", ("not", ("truth", False)), ("or", ("truth", False), ("lt", number(1), number(2)))), True)

    def test_exists(self):
        self.check(("exists", select([number(1)], ["t"])), True)
        self.check(("exists", select([number(1)], ["none"])), False)
        self.check(("exists", select([number(1)], ["t"], ("truth", False))), False)
        self.check(("not", ("exists", select([("count",)], ["none"], None, []))), True)

    def test_exists_names_levels_around_it(self):
        same = select([number(1)], ["s"], ("eq", cell(0, 0), cell(0, 0, 1)))
        self.check(("exists", same), True, [[(2, "a")]])
        self.check(("exists", same), False, [[(5, "c")]])
        self.check(("exists", same), False, ([(1, "a")], [(5, "c")]))
        deep = select([number(1)], ["s"], ("and", ("eq", cell(0, 1), cell(0, 0, 2)), ("eq", cell(0, 0), cell(0, 0, 1))))
        middle = select([cell(0, 0)], ["t"], ("exists", deep))
        self.check(("exists", middle), True, [[(30,)]])
        self.check(("exists", middle), False, [[(31,)]])
        both = ("except", select([cell(0, 0)], ["t"], ("gt", cell(0, 0), cell(0, 0, 1))), select([cell(0, 0)], ["s"]))
        self.check(("exists", both), True, [[(2,)]])
        self.check(("exists", both), False, [[(5,)]])

    def test_long_chains(self):
        e = condition = cell(0, 0)
        condition = ("truth", True)
        for _ in range(180):
            e = ("neg", e)
            condition = ("not", condition)
        self.check(e, 4, [[(4,)]])
        self.check(condition, True)


class SelectTest(unittest.TestCase):
    def check(self, question, rows, levels=()):
        self.assertEqual(Unchanged(self)(plain_answer, question, TABLES, levels), rows)

    def test_items(self):
        self.check(select([cell(0, 1), cell(0, 0)], ["t"]), [("a", 1), ("a", 2), ("b", 1), ("c", 5)])
        self.check(select([number(7), ("add", cell(0, 0), number(1))], ["t"]), [(7, 2), (7, 3), (7, 6)])

    def test_equal_rows_are_one(self):
        self.check(select([cell(0, 0)], ["t"]), [(1,), (2,), (5,)])
        self.check(select([number(1)], ["t", "s"]), [(1,)])

    def test_ascending_order(self):
        self.check(select([("neg", cell(0, 0))], ["t"]), [(-5,), (-2,), (-1,)])
        self.check(select([("mul", cell(0, 0), number(9))], ["t"]), [(9,), (18,), (45,)])

    def test_several_sources(self):
        self.check(select([cell(0, 0), cell(1, 1)], ["t", "s"], ("eq", cell(0, 0), cell(1, 0))),
                   [(1, 10), (2, 20), (2, 30)])
        self.check(select([cell(0, 1), cell(1, 1)], ["s", "s"], ("lt", cell(0, 1), cell(1, 1))),
                   [(10, 20), (10, 30), (20, 30)])
        self.assertEqual(len(plain_answer(select([cell(n, 1) for n in range(3)], ["s"] * 3), TABLES)), 27)

    def test_empty_tables(self):
        self.check(select([cell(0, 0)], ["none"]), [])
        self.check(select([cell(0, 0)], ["t", "none"]), [])
        self.check(select([cell(1, 0)], ["none", "t"]), [])

    def test_where(self):
        self.check(select([cell(0, 1)], ["t"], ("gt", cell(0, 0), number(1))), [("a",), ("c",)])
        self.check(select([cell(0, 0)], ["t"], ("truth", False)), [])
        self.check(select([cell(0, 0)], ["t"], ("truth", True)), [(1,), (2,), (5,)])
        self.check(select([cell(0, 0)], ["t"], ("or", ("truth", False), ("eq", cell(0, 1), ("text", "b")))), [(1,)])

    def test_levels(self):
        question = select([cell(0, 0), cell(0, 0, 1), cell(0, 0, 2)], ["s"], ("eq", cell(0, 0), cell(0, 0, 1)))
        self.check(question, [(2, 2, "x")], [[("x",)], [(2,)]])
        self.check(question, [(2, 2, "x")], ([("x",)], [(2,)]))
        self.check(question, [], [[("x",)], [(7,)]])

    def test_levels_may_be_missing(self):
        self.assertEqual(plain_answer(select([cell(0, 0)], ["s"]), TABLES), [(1,), (2,)])

    def test_where_with_exists(self):
        inner = select([number(1)], ["s"], ("eq", cell(0, 0), cell(0, 0, 1)))
        self.check(select([cell(0, 0), cell(0, 1)], ["t"], ("exists", inner)), [(1, "a"), (1, "b"), (2, "a")])
        self.check(select([cell(0, 0), cell(0, 1)], ["t"], ("not", ("exists", inner))), [(5, "c")])


class GatheringTest(unittest.TestCase):
    def check(self, question, rows, levels=()):
        self.assertEqual(Unchanged(self)(plain_answer, question, TABLES, levels), rows)

    def test_groups(self):
        items = [cell(0, 0), ("count",), ("least", cell(0, 1)), ("greatest", cell(0, 1))]
        self.check(select(items, ["t"], None, [cell(0, 0)]), [(1, 2, "a", "b"), (2, 1, "a", "a"), (5, 1, "c", "c")])

    def test_group_of_several_cells(self):
        self.check(select([cell(0, 1), ("count",)], ["t"], None, [cell(0, 1), cell(0, 0)]),
                   [("a", 1), ("b", 1), ("c", 1)])
        self.check(select([("count",)], ["t"], None, [cell(0, 1)]), [(1,), (2,)])

    def test_one_group_of_all(self):
        self.check(select([("count",), ("sum", cell(0, 0)), ("least", cell(0, 0)), ("greatest", cell(0, 0))],
                          ["t"], None, []), [(4, 9, 1, 5)])
        self.check(select([number(3)], ["t"], None, []), [(3,)])

    def test_no_group_without_a_choice(self):
        self.check(select([("count",)], ["none"], None, []), [])
        self.check(select([("count",)], ["t", "none"], None, []), [])
        self.check(select([("count",)], ["t"], ("truth", False), []), [])
        self.check(select([cell(0, 0), ("count",)], ["none"], None, [cell(0, 0)]), [])
        self.check(select([number(1)], ["none"], None, [], ("eq", ("count",), number(0))), [])

    def test_choices_are_counted_not_rows(self):
        self.check(select([("count",), ("sum", number(2))], ["t", "s"], None, []), [(12, 24)])
        self.check(select([("sum", cell(0, 0))], ["s"], None, []), [(5,)])
        self.check(select([cell(0, 0), ("sum", cell(1, 1))], ["t", "s"], ("eq", cell(0, 0), cell(1, 0)), [cell(0, 0)]),
                   [(1, 20), (2, 50)])

    def test_sums_are_wrapped(self):
        self.check(select([("sum", number(MOST))], ["s"], None, []), [(wrap(3 * MOST),)])
        self.check(select([("sum", ("mul", cell(0, 0), number(MOST)))], ["s"], ("eq", cell(0, 0), number(2)), []),
                   [(-2,)])

    def test_operators_over_gatherings(self):
        self.check(select([("add", ("sum", ("mul", cell(0, 0), number(2))), ("neg", ("count",))), cell(0, 1)],
                          ["t"], None, [cell(0, 1)]), [(1, "b"), (4, "a"), (9, "c")])
        self.check(select([("div", ("sum", cell(0, 1)), ("count",))], ["s"], None, []), [(20,)])

    def test_having(self):
        more = ("gt", ("count",), number(1))
        self.check(select([cell(0, 0)], ["t"], None, [cell(0, 0)], more), [(1,)])
        self.check(select([cell(0, 0)], ["t"], None, [cell(0, 0)], ("not", more)), [(2,), (5,)])
        self.check(select([cell(0, 0)], ["t"], None, [cell(0, 0)],
                          ("or", ("eq", cell(0, 0), number(5)), ("eq", ("greatest", cell(0, 1)), ("text", "b")))),
                   [(1,), (5,)])
        self.check(select([number(1)], ["t"], None, [], more), [(1,)])
        self.check(select([number(1)], ["t"], None, [], ("truth", False)), [])
        self.check(select([cell(0, 0)], ["s"], None, [cell(0, 0)], ("truth", True)), [(1,), (2,)])
        self.check(select([cell(0, 0)], ["t"], ("eq", cell(0, 1), ("text", "a")), [cell(0, 0)], more), [])

    def test_gatherings_name_levels_around(self):
        inner = select([("count",)], ["s"], ("eq", cell(0, 0), cell(0, 0, 1)), [],
                       ("gt", ("sum", ("mul", cell(0, 1), cell(0, 0, 1))), number(10)))
        self.check(select([cell(0, 0)], ["t"], ("exists", inner)), [(2,)])
        self.check(select([("least", cell(0, 0, 1))], ["s"], None, []), [(8,)], [[(8,)]])

    def test_gatherings_inside_an_exists_belong_to_it(self):
        inner = select([("count",)], ["s"], None, [cell(0, 0)], ("eq", ("count",), cell(0, 0, 1)))
        self.check(select([cell(0, 0), ("count",)], ["t"], ("exists", inner), [cell(0, 0)]), [(1, 2), (2, 1)])


class ManyChoicesTest(unittest.TestCase):
    """Questions whose choices are too many to go through all of them."""

    def test_one_choice_is_enough_for_an_exists(self):
        tables = {"t": [(n,) for n in range(60)]}
        pairs = select([number(1)], ["t"] * 4, ("le", cell(3, 0), cell(0, 0, 1)))
        self.assertEqual(plain_answer(select([cell(0, 0)], ["t"], ("exists", pairs)), tables), tables["t"])
        more = ("exists", ("union", pairs, select([cell(0, 0)], ["t"] * 4)))
        self.assertEqual(plain_answer(select([cell(0, 0)], ["t"], more), tables), tables["t"])
        deep = select([number(1)], ["t"], ("ge", cell(0, 0), cell(0, 0, 1)))
        for _ in range(15):
            deep = select([number(1)], ["t"], ("exists", deep))
        self.assertEqual(len(plain_answer(select([cell(0, 0)], ["t"], ("exists", deep)), tables)), 60)

    def test_parts_are_asked_as_soon_as_their_sources_are_taken(self):
        tables = {"t": [(n, n % 7) for n in range(60)]}
        same = [("eq", ("add", cell(n, 0), number(1)), cell(n + 1, 0)) for n in range(4)]
        where = ("and", ("and", same[3], same[2]), ("and", same[1], same[0]))
        self.assertEqual(plain_answer(select([cell(0, 0), cell(4, 0)], ["t"] * 5, where), tables),
                         [(n, n + 4) for n in range(56)])
        never = ("exists", select([number(1)], ["t"], ("lt", cell(0, 0), number(0))))
        self.assertEqual(plain_answer(select([number(1)], ["t"] * 5, ("and", never, ("truth", True))), tables), [])


class SetsTest(unittest.TestCase):
    def check(self, word, left, right, rows):
        self.assertEqual(Unchanged(self)(plain_answer, (word, left, right), TABLES), rows)

    def test_sets(self):
        one, two = select([cell(0, 0)], ["t"]), select([("div", cell(0, 1), number(10))], ["s"])
        self.check("union", one, two, [(1,), (2,), (3,), (5,)])
        self.check("except", one, two, [(5,)])
        self.check("except", two, one, [(3,)])
        self.check("intersect", one, two, [(1,), (2,)])
        self.check("intersect", one, select([cell(0, 1)], ["none"]), [])
        self.check("union", one, select([cell(0, 1)], ["none"]), [(1,), (2,), (5,)])
        self.check("except", one, one, [])

    def test_sets_of_sets(self):
        one, two = select([cell(0, 0)], ["t"]), select([("div", cell(0, 1), number(10))], ["s"])
        self.check("intersect", ("union", one, two), ("except", two, one), [(3,)])
        self.check("except", ("except", one, two), one, [])

    def test_levels_reach_both_sides(self):
        question = ("union", select([cell(0, 0, 1)], ["s"]), select([("neg", cell(0, 0, 1))], ["s"]))
        self.assertEqual(plain_answer(question, TABLES, ([(4,)],)), [(-4,), (4,)])


def expected_value(e, levels, tables, members=()):
    """The value of an expression, told by the words of the document alone."""
    word, *parts = e
    if word == "cell":
        return levels[-1 - parts[0]][parts[1]][parts[2]]
    if word in ("number", "text", "truth"):
        return parts[0]
    if word == "exists":
        return len(expected_answer(parts[0], tables, levels)) > 0
    if word == "count":
        return len(members)
    if word in ("sum", "least", "greatest"):
        found = [expected_value(parts[0], levels[:-1] + [choice], tables) for choice in members]
        return {"sum": lambda xs: wrap(sum(xs)), "least": min, "greatest": max}[word](found)
    values = [expected_value(part, levels, tables, members) for part in parts]
    return ACTIONS[word](*values)


ACTIONS = {
    "neg": lambda x: wrap(-x), "not": lambda x: not x, "and": lambda x, y: x and y, "or": lambda x, y: x or y,
    "add": lambda x, y: wrap(x + y), "sub": lambda x, y: wrap(x - y), "mul": lambda x, y: wrap(x * y),
    "div": lambda x, y: wrap(math.floor(fractions.Fraction(x, y))) if y else 0,
    "mod": lambda x, y: x - y * math.floor(fractions.Fraction(x, y)) if y else x,
    "eq": lambda x, y: x == y, "ne": lambda x, y: x != y, "lt": lambda x, y: x < y, "le": lambda x, y: x <= y,
    "gt": lambda x, y: x > y, "ge": lambda x, y: x >= y,
}


def expected_answer(question, tables, levels):
    """The set of the rows of an answer."""
    word, *parts = question
    if word != "select":
        left, right = [expected_answer(part, tables, levels) for part in parts]
        return {"union": left | right, "except": left - right, "intersect": left & right}[word]
    items, names, where, group, having = parts
    choices = [list(choice) for choice in itertools.product(*[tables[name] for name in names])
               if where is None or expected_value(where, levels + [list(choice)], tables)]
    if group is None:
        return {tuple([expected_value(e, levels + [choice], tables) for e in items]) for choice in choices}
    answer = set()
    for some in choices:
        members = [choice for choice in choices if all([expected_value(e, [choice], tables)
                                                        == expected_value(e, [some], tables) for e in group])]
        if having is None or expected_value(having, levels + [some], tables, members):
            answer.add(tuple([expected_value(e, levels + [some], tables, members) for e in items]))
    return answer


class RandomQuestionsTest(unittest.TestCase):
    def test_random_questions(self):
        source = random.Random(12)
        maker = MeaningMaker(source, KINDS)
        for _ in range(1500):
            outer = [[source.choice(["t", "s"])] for _ in range(source.randrange(3))]
            question = maker.question(maker.kinds(), outer, 3)
            levels = [[source.choice(TABLES[name]) for name in names] for names in outer]
            expected = sorted(expected_answer(question, TABLES, levels))
            self.assertEqual(Unchanged(self)(plain_answer, question, TABLES, levels), expected, question)
            self.assertEqual(plain_answer(question, TABLES, tuple(levels)), expected)

    def test_random_conditions(self):
        source = random.Random(13)
        maker = MeaningMaker(source, KINDS)
        for _ in range(1500):
            outer = [[source.choice(["t", "s"])] for _ in range(source.randrange(1, 3))]
            levels = [[source.choice(TABLES[name]) for name in names] for names in outer]
            for e in (maker.condition(outer, 3), maker.value(source.choice(["number", "text"]), outer, 3)):
                self.assertEqual(value_of(e, levels, TABLES), expected_value(e, levels, TABLES), e)


if __name__ == "__main__":
    unittest.main()
