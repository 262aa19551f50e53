import unittest

from helpers import Unchanged
from pastamended.plain_rules import rule_holds

PEOPLE = [("ann", 1, "eve"), ("bob", 2, "ann"), ("eve", 3, "eve")]
TASKS = [(1, "x", "ann"), (1, "y", "bob"), (2, "x", "bob")]
TABLES = {"people": PEOPLE, "tasks": TASKS, "none": []}
KEYS = {"people": [0], "tasks": [1, 0], "none": [0]}


class PlainRulesTest(unittest.TestCase):
    def check(self, rule, rows, holds, name="people", tables=None, keys=None):
        tables = {**(TABLES if tables is None else tables), name: rows}
        found = Unchanged(self)(rule_holds, rule, rows, tables, KEYS if keys is None else keys)
        self.assertIs(found, holds, rule)

    def test_key(self):
        self.check(("key", [0]), PEOPLE, True)
        self.check(("key", [0]), [("ann", 1, "eve"), ("ann", 2, "eve")], False)
        self.check(("key", [0]), [], True)
        self.check(("key", [2]), PEOPLE, False)
        self.check(("key", [2]), PEOPLE[1:], True)
        self.check(("key", [0, 1, 2]), PEOPLE, True)

    def test_key_of_two_columns(self):
        for columns in ([1, 0], [0, 1]):
            self.check(("key", columns), TASKS, True, "tasks")
            self.check(("key", columns), TASKS + [(2, "x", "eve")], False, "tasks")
        self.check(("key", [0]), TASKS, False, "tasks")
        self.check(("key", [1, 2]), [(1, "x", "y"), (2, "xy", "")], True, "tasks")

    def test_refers_to_another_table(self):
        self.check(("refers", [2], "people"), TASKS, True, "tasks")
        self.check(("refers", [2], "people"), TASKS + [(3, "x", "zoe")], False, "tasks")
        self.check(("refers", [2], "people"), [], True, "tasks")
        self.check(("refers", [0], "none"), PEOPLE, False)
        self.check(("refers", [0], "none"), [], True)

    def test_refers_to_the_own_table(self):
        self.check(("refers", [2], "people"), PEOPLE, True)
        self.check(("refers", [2], "people"), PEOPLE[:2], False)
        self.check(("refers", [2], "people"), [("eve", 3, "eve")], True)

    def test_refers_in_the_order_of_the_key(self):
        # The key of tasks is its column 1, then its column 0.
        rows = [("x", 1), ("y", 1), ("x", 2)]
        self.check(("refers", [0, 1], "tasks"), rows, True, "notes")
        self.check(("refers", [0, 1], "tasks"), rows + [("y", 2)], False, "notes")
        self.check(("refers", [1, 0], "tasks"), [(1, "x"), (2, "x")], True, "notes")
        self.check(("refers", [1, 0], "tasks"), [(2, "y")], False, "notes")
        numbers = {"tasks": [(1, 2), (3, 4)]}
        self.check(("refers", [0, 1], "tasks"), [(2, 1), (4, 3)], True, "notes", numbers)
        self.check(("refers", [0, 1], "tasks"), [(1, 2)], False, "notes", numbers)
        self.check(("refers", [1, 0], "tasks"), [(1, 2), (3, 4)], True, "notes", numbers)
        self.check(("refers", [0, 1], "tasks"), [(1, 2), (2, 1)], True, "tasks", {}, {"tasks": [1, 0]})
        self.check(("refers", [0, 1], "tasks"), [(1, 2), (2, 2)], False, "tasks", {}, {"tasks": [1, 0]})
        self.check(("refers", [0, 1], "tasks"), [(1, 2), (2, 2)], True, "tasks", {}, {"tasks": [0, 1]})

    def test_require(self):
        positive = ("gt", ("cell", 0, 0, 1), ("number", 0))
        self.check(("require", positive), PEOPLE, True)
        self.check(("require", positive), PEOPLE + [("zoe", 0, "ann")], False)
        self.check(("require", positive), [("abe", 0, "ann")] + PEOPLE, False)
        self.check(("require", positive), [], True)
        self.check(("require", ("truth", False)), [], True)
        self.check(("require", ("truth", False)), PEOPLE, False)
        self.check(("require", ("truth", True)), PEOPLE, True)
        other = ("ne", ("cell", 0, 0, 0), ("cell", 0, 0, 2))
        self.check(("require", other), PEOPLE, False)
        self.check(("require", other), PEOPLE[:2], True)

    def test_most(self):
        self.check(("most", 3), PEOPLE, True)
        self.check(("most", 2), PEOPLE, False)
        self.check(("most", 4), PEOPLE, True)
        self.check(("most", 1), [], True)
        self.check(("most", 10 ** 18), PEOPLE, True)

    def test_whole(self):
        self.check(("whole",), PEOPLE, True)
        self.check(("whole",), [], True)

    def test_sixty_rows(self):
        rows = [(n, n % 7, n % 6, "x", str(n)) for n in range(60)]
        self.check(("key", [1, 2]), rows, False)
        self.check(("key", [1, 2]), rows[:42], True)
        self.check(("refers", [4, 0], "people"), rows, True, "people", {}, {"people": [4, 0]})


if __name__ == "__main__":
    unittest.main()
