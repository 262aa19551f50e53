import itertools
import math
import random
import unittest

from helpers import MeaningMaker, Unchanged, cell, number, select
from pastamended.orders import choose_order, make_plan, order_number
from pastamended.parts import parts, sources_of


def eq(left, right):
    return ("eq", left, right)


def all_of(*conditions):
    joined = conditions[0]
    for condition in conditions[1:]:
        joined = ("and", joined, condition)
    return joined


def over(count, *conditions):
    """A select over tables t0, t1 and so on."""
    return select([number(1)], [f"t{n}" for n in range(count)], all_of(*conditions) if conditions else None)


def is_probe(part, source, earlier):
    """The column and the expression of point 39, or None."""
    for own, other in (part[1:], part[:0:-1]) if part[0] == "eq" else ():
        if own[0] == "cell" and own[1:3] == (0, source) and set(sources_of(other)) <= set(earlier):
            return (own[3], other)
    return None


def plan_by_the_words(one, order):
    """The plan of point 39, part by part: each part goes to the first step at which its sources are taken."""
    steps = [(source, [], []) for source in order]
    for part in parts(one[3]):
        at = max([order.index(source) for source in sources_of(part)], default=0)
        source, probes, filters = steps[at]
        probe = is_probe(part, source, order[:at])
        if probe is not None and probe[0] not in [column for column, _ in probes]:
            probes.append(probe)
        else:
            filters.append(part)
    return steps


class OrderNumberTest(unittest.TestCase):
    def test_the_example(self):
        self.assertEqual(order_number(3, 3), [1, 2, 0])

    def test_all_orders_of_a_few(self):
        for count in range(1, 6):
            orders = [list(order) for order in itertools.permutations(range(count))]
            for n in range(3 * len(orders)):
                self.assertEqual(order_number(n, count), orders[n % len(orders)])

    def test_one_index(self):
        for n in (0, 1, 2, 10 ** 50):
            self.assertEqual(order_number(n, 1), [0])

    def test_many_indexes(self):
        for count in (20, 39, 40):
            orders = math.factorial(count)
            forward = list(range(count))
            self.assertEqual(order_number(0, count), forward)
            self.assertEqual(order_number(orders, count), forward)
            self.assertEqual(order_number(orders - 1, count), forward[::-1])
            self.assertEqual(order_number(7 * orders + 1, count), forward[:-2] + [count - 1, count - 2])
            self.assertEqual(order_number(orders // count, count), [1, 0] + forward[2:])
            self.assertEqual(order_number(5 * (orders // count) - 1, count), [4] + [n for n in forward[::-1] if n != 4])

    def test_large_numbers(self):
        source = random.Random(91)
        for _ in range(50):
            count = source.randrange(1, 41)
            n = source.randrange(10 ** 60)
            order = order_number(n, count)
            self.assertEqual(sorted(order), list(range(count)))
            left, place = list(range(count)), 0
            for at, index in enumerate(order):
                place += left.index(index) * math.factorial(count - 1 - at)
                left.remove(index)
            self.assertEqual(place, n % math.factorial(count))


class MakePlanTest(unittest.TestCase):
    def check(self, one, order, steps):
        self.assertEqual(Unchanged(self)(make_plan, one, order), steps)

    def test_no_where(self):
        self.check(over(1), [0], [(0, [], [])])
        self.check(over(3), [2, 0, 1], [(2, [], []), (0, [], []), (1, [], [])])

    def test_columns_with_columns(self):
        same = eq(cell(0, 1), cell(1, 2))
        self.check(over(2, same), [0, 1], [(0, [], []), (1, [(2, cell(0, 1))], [])])
        self.check(over(2, same), [1, 0], [(1, [], []), (0, [(1, cell(1, 2))], [])])

    def test_constants_in_both_directions(self):
        self.check(over(2, eq(cell(1, 0), number(7))), [0, 1], [(0, [], []), (1, [(0, number(7))], [])])
        self.check(over(2, eq(number(7), cell(1, 0))), [0, 1], [(0, [], []), (1, [(0, number(7))], [])])
        self.check(over(1, eq(("text", "x"), cell(0, 3))), [0], [(0, [(3, ("text", "x"))], [])])
        self.check(over(1, eq(("neg", number(7)), cell(0, 3))), [0], [(0, [(3, ("neg", number(7)))], [])])

    def test_sums(self):
        total = ("add", cell(0, 0), cell(1, 0))
        part = eq(total, cell(2, 1))
        self.check(over(3, part), [0, 1, 2], [(0, [], []), (1, [], []), (2, [(1, total)], [])])
        self.check(over(3, part), [1, 0, 2], [(1, [], []), (0, [], []), (2, [(1, total)], [])])
        self.check(over(3, part), [0, 2, 1], [(0, [], []), (2, [], []), (1, [], [part])])
        self.check(over(3, part), [2, 1, 0], [(2, [], []), (1, [], []), (0, [], [part])])

    def test_cells_of_selects_further_out(self):
        for e in (cell(0, 4, 1), cell(1, 4, 2), ("sub", cell(0, 4, 1), number(2))):
            self.check(over(2, eq(cell(0, 0), e)), [0, 1], [(0, [(0, e)], []), (1, [], [])])
            self.check(over(2, eq(e, cell(0, 0))), [1, 0], [(1, [], []), (0, [(0, e)], [])])
        outward = eq(cell(0, 4, 1), number(3))
        self.check(over(2, outward), [1, 0], [(1, [], [outward]), (0, [], [])])

    def test_a_source_with_itself(self):
        for part in (eq(cell(0, 0), cell(0, 1)), eq(cell(0, 0), cell(0, 0)), eq(cell(0, 0), ("neg", cell(0, 1)))):
            self.check(over(2, part), [0, 1], [(0, [], [part]), (1, [], [])])
            self.check(over(2, part), [1, 0], [(1, [], []), (0, [], [part])])

    def test_a_part_that_names_the_step_on_both_sides(self):
        part = eq(cell(1, 0), ("add", cell(1, 1), cell(0, 0)))
        self.check(over(2, part), [0, 1], [(0, [], []), (1, [], [part])])
        self.check(over(2, part), [1, 0], [(1, [], []), (0, [], [part])])

    def test_other_comparisons_are_filters(self):
        for word in ("ne", "lt", "le", "gt", "ge"):
            part = (word, cell(1, 0), cell(0, 0))
            self.check(over(2, part), [0, 1], [(0, [], []), (1, [], [part])])
            self.check(over(2, part), [1, 0], [(1, [], []), (0, [], [part])])

    def test_an_equality_below_an_operator_is_no_probe(self):
        for part in (("not", eq(cell(0, 0), number(1))),
                     ("or", eq(cell(0, 0), number(1)), eq(cell(0, 1), number(2)))):
            self.check(over(2, part), [0, 1], [(0, [], [part]), (1, [], [])])

    def test_parts_that_name_no_source(self):
        first, second = eq(number(1), number(2)), ("truth", False)
        alone = ("exists", select([number(1)], ["t0"], eq(cell(0, 0), cell(1, 1, 2))))
        self.check(over(2, first, second, alone), [1, 0], [(1, [], [first, second, alone]), (0, [], [])])

    def test_exists(self):
        inner = ("exists", select([number(1)], ["t0"], eq(cell(0, 0), cell(1, 1, 1))))
        self.check(over(3, inner), [0, 1, 2], [(0, [], []), (1, [], [inner]), (2, [], [])])
        self.check(over(3, inner), [1, 0, 2], [(1, [], [inner]), (0, [], []), (2, [], [])])
        deep = ("exists", select([number(1)], ["t0"], ("exists", select([number(1)], ["t0"],
                                                                        eq(cell(2, 0, 2), cell(0, 0, 2))))))
        self.check(over(3, deep), [2, 1, 0], [(2, [], []), (1, [], []), (0, [], [deep])])
        self.check(over(3, ("not", deep)), [0, 2, 1], [(0, [], []), (2, [], [("not", deep)]), (1, [], [])])

    def test_two_equalities_for_one_column(self):
        first, second = eq(cell(0, 0), number(1)), eq(cell(0, 0), number(2))
        self.check(over(1, first, second), [0], [(0, [(0, number(1))], [second])])
        third = eq(cell(0, 1), number(3))
        self.check(over(1, second, third, first), [0], [(0, [(0, number(2)), (1, number(3))], [first])])
        self.check(over(1, first, first), [0], [(0, [(0, number(1))], [first])])
        joins = (eq(cell(0, 0), cell(2, 0)), eq(cell(2, 0), cell(1, 0)))
        self.check(over(3, *joins), [0, 1, 2], [(0, [], []), (1, [], []), (2, [(0, cell(0, 0))], [joins[1]])])
        self.check(over(3, *joins), [2, 1, 0], [(2, [], []), (1, [(0, cell(2, 0))], []), (0, [(0, cell(2, 0))], [])])

    def test_the_order_of_the_parts(self):
        conditions = [("lt", cell(1, 0), number(1)), eq(cell(1, 2), number(2)), ("gt", cell(1, 1), cell(0, 0)),
                      eq(cell(0, 1), cell(1, 1)), eq(number(5), cell(1, 0))]
        self.check(over(2, *conditions), [0, 1], [
            (0, [], []), (1, [(2, number(2)), (1, cell(0, 1)), (0, number(5))], [conditions[0], conditions[2]])])
        self.check(over(2, *conditions), [1, 0], [
            (1, [(2, number(2)), (0, number(5))], [conditions[0]]), (0, [(1, cell(1, 1))], [conditions[2]])])

    def test_right_operands_that_are_and(self):
        first, second, third = [eq(cell(n, 0), number(n)) for n in range(3)]
        one = over(3, ("and", first, ("and", second, third)))
        self.check(one, [0, 1, 2], [(n, [(0, number(n))], []) for n in range(3)])

    def test_one_table_twice(self):
        one = select([number(1)], ["t", "t"], eq(cell(0, 0), cell(1, 0)))
        self.check(one, [1, 0], [(1, [], []), (0, [(0, cell(1, 0))], [])])

    def test_against_the_words_of_the_document(self):
        source = random.Random(92)
        kinds = {"t": ["number", "text"], "s": ["number", "number"]}
        maker = MeaningMaker(source, kinds)
        for _ in range(500):
            names = [source.choice(["t", "s"]) for _ in range(source.randrange(1, 5))]
            scope = [["t"], names]
            conditions = [maker.condition(scope, 2) for _ in range(source.randrange(4))]
            conditions += [eq(maker.value("number", scope, 1), maker.value("number", scope, 1))
                           for _ in range(source.randrange(5))]
            source.shuffle(conditions)
            one = select([number(1)], names, all_of(*conditions) if conditions else None)
            order = order_number(source.randrange(24), len(names))
            self.check(one, order, plan_by_the_words(one, order))


class ChooseOrderTest(unittest.TestCase):
    def check(self, one, sizes, order):
        self.assertEqual(Unchanged(self)(choose_order, one, sizes), order)

    def test_sizes_alone(self):
        self.check(over(3), {"t0": 5, "t1": 3, "t2": 4}, [1, 2, 0])
        self.check(over(1), {"t0": 0}, [0])
        self.check(over(3), {"t0": 9, "t1": 9, "t2": 0, "other": 1}, [2, 0, 1])

    def test_equal_sizes(self):
        self.check(over(4), {"t0": 2, "t1": 2, "t2": 2, "t3": 2}, [0, 1, 2, 3])
        self.check(over(4), {"t0": 2, "t1": 1, "t2": 2, "t3": 1}, [1, 3, 0, 2])
        self.check(select([number(1)], ["b", "a", "b", "a"]), {"a": 3, "b": 3}, [0, 1, 2, 3])

    def test_probes_come_before_sizes(self):
        self.check(over(2, eq(cell(1, 0), number(1))), {"t0": 1, "t1": 99}, [1, 0])
        self.check(over(2, eq(cell(1, 0), cell(0, 0, 1))), {"t0": 1, "t1": 99}, [1, 0])
        chain = over(4, eq(cell(0, 0), cell(3, 0)), eq(cell(3, 1), cell(2, 0)))
        sizes = {"t0": 1, "t1": 2, "t2": 50, "t3": 60}
        self.check(chain, sizes, [0, 3, 2, 1])
        both = over(3, eq(cell(0, 0), cell(1, 0)), eq(cell(2, 0), cell(0, 1)))
        self.check(both, {"t0": 1, "t1": 8, "t2": 7}, [0, 2, 1])
        self.check(both, {"t0": 1, "t1": 7, "t2": 7}, [0, 1, 2])
        self.check(both, {"t0": 9, "t1": 7, "t2": 7}, [1, 0, 2])

    def test_sums_need_all_their_sources(self):
        one = over(3, eq(cell(2, 0), ("add", cell(0, 0), cell(1, 0))))
        self.check(one, {"t0": 5, "t1": 7, "t2": 6}, [0, 2, 1])
        self.check(one, {"t0": 5, "t1": 6, "t2": 7}, [0, 1, 2])

    def test_filters_do_not_count(self):
        one = over(2, ("lt", cell(1, 0), number(1)), ("not", eq(cell(1, 0), number(1))), eq(cell(1, 0), cell(1, 1)))
        self.check(one, {"t0": 1, "t1": 2}, [0, 1])

    def test_against_the_words_of_the_document(self):
        source = random.Random(93)
        maker = MeaningMaker(source, {"t": ["number"], "s": ["number", "number"], "u": ["number", "number"]})
        for _ in range(300):
            names = [source.choice(["t", "s", "u"]) for _ in range(source.randrange(1, 6))]
            scope = [["t"], names]
            conditions = [eq(maker.value("number", scope, 1), maker.value("number", scope, 1))
                          for _ in range(source.randrange(6))]
            one = select([number(1)], names, all_of(*conditions) if conditions else None)
            sizes = {name: source.randrange(3) for name in ("t", "s", "u")}
            order = []
            while len(order) < len(names):
                left = [n for n in range(len(names)) if n not in order]
                found = [n for n in left
                         if make_plan(one, order + [n] + [m for m in left if m != n])[len(order)][1]]
                least = min([sizes[names[n]] for n in found or left])
                order.append([n for n in found or left if sizes[names[n]] == least][0])
            self.check(one, sizes, order)

    def test_many_sources(self):
        count = 40
        chain = over(count, *[eq(cell(n, 0), cell(n + 1, 0)) for n in range(count - 1)])
        sizes = {f"t{n}": 100 - n for n in range(count)}
        self.check(chain, sizes, list(range(count))[::-1])


if __name__ == "__main__":
    unittest.main()
