import unittest

from helpers import Unchanged, cell, number, select
from pastamended.checking import check_statement
from pastamended.errors import StatementError
from pastamended.reading import read_statement
from pastamended.values import END, MOST, OPEN

SCHEMAS = {
    "staff": ([("name", "text"), ("pay", "number"), ("boss", "text")], [0]),
    "tasks": ([("day", "number"), ("name", "text"), ("hours", "number")], [1, 0]),
    "notes": ([("day", "number"), ("line", "text")], None),
}


def asked(question):
    return ("ask", question, (0, END), None)


def columns_text(count):
    return ", ".join([f"c{n} number" for n in range(count)])


class CheckingCase(unittest.TestCase):
    def meaning(self, text):
        return Unchanged(self)(check_statement, read_statement(text), SCHEMAS)

    def check(self, text, meaning):
        self.assertEqual(self.meaning(text), meaning, text)

    def check_question(self, text, question):
        self.check(text, asked(question))

    def check_mistake(self, error, text):
        """The text has the mark ^ at the place of its first mistake."""
        place = text.index("^")
        with self.assertRaises(StatementError) as caught:
            self.meaning(text.replace("^", ""))
        self.assertEqual((caught.exception.__class__.__name__, caught.exception.place), (error, place), text)

    def check_mistakes(self, error, texts):
        for text in texts.strip().split("\n"):
            self.check_mistake(error, text.strip())

    def check_right(self, texts):
        for text in texts.strip().split("\n"):
            self.meaning(text.strip())


class ExpressionMeaningTest(CheckingCase):
    def check_where(self, text, e):
        self.check(f"delete tasks where {text} always", ("delete", "tasks", e, (0, END)))

    def test_operators(self):
        day, hours = cell(0, 0), cell(0, 2)
        self.check_where("day = hours", ("eq", day, hours))
        for sign, word in (("<>", "ne"), ("<", "lt"), ("<=", "le"), (">", "gt"), (">=", "ge")):
            self.check_where(f"day {sign} 7", (word, day, number(7)))
        for sign, word in (("+", "add"), ("-", "sub"), ("*", "mul"), ("div", "div"), ("mod", "mod")):
            self.check_where(f"day {sign} 7 = hours", ("eq", (word, day, number(7)), hours))
        self.check_where("- - day = 1", ("eq", ("neg", ("neg", day)), number(1)))
        self.check_where('name = "x" and not (day = 1 or hours = 2)',
                         ("and", ("eq", cell(0, 1), ("text", "x")),
                          ("not", ("or", ("eq", day, number(1)), ("eq", hours, number(2))))))

    def test_row_itself(self):
        self.check_where("tasks.day = day", ("eq", cell(0, 0), cell(0, 0)))
        self.check("update staff set pay = staff.pay + pay, name = boss where boss = name at 3",
                   ("update", "staff", [(1, ("add", cell(0, 1), cell(0, 1))), (0, cell(0, 2))],
                    ("eq", cell(0, 2), cell(0, 0)), (3, 4)))

    def test_row_itself_around_selects(self):
        inner = select([number(1)], ["notes"], ("and", ("eq", cell(0, 0), cell(0, 0, 1)), ("eq", cell(0, 1), cell(0, 1, 1))))
        self.check_where("exists (select 1 from notes where day = tasks.day and line = name)", ("exists", inner))
        same = select([cell(0, 0), cell(0, 0, 1)], ["tasks"], ("eq", cell(0, 2), cell(0, 2, 1)))
        self.check_where("exists (select day, tasks.day from tasks as other where hours = tasks.hours)", ("exists", same))
        own = select([cell(0, 0)], ["tasks"], ("eq", cell(0, 2), cell(0, 2)))
        self.check_where("exists (select tasks.day from tasks where hours = tasks.hours)", ("exists", own))
        deep = select([number(1)], ["staff"], ("eq", cell(0, 0), cell(0, 1, 2)))
        self.check_where("exists (select line from notes where exists (select 1 from staff where name = tasks.name))",
                         ("exists", select([cell(0, 1)], ["notes"], ("exists", deep))))

    def test_cells_of_selects_further_out(self):
        deep = select([number(1)], ["notes"], ("and", ("eq", cell(0, 0), cell(0, 0, 1)), ("eq", cell(0, 1), cell(1, 2, 2))))
        middle = select([cell(0, 2)], ["tasks"], ("exists", deep))
        text = ("select pay from notes as n, staff where exists (select hours from tasks where exists "
                "(select 1 from notes where day = tasks.day and line = boss))")
        self.check_question(text, select([cell(1, 1)], ["notes", "staff"], ("exists", middle)))

    def test_innermost_source_of_a_name(self):
        text = "select 1 from staff as x where exists (select 1 from notes as x where exists (select x.day from staff))"
        deep = select([cell(0, 0, 1)], ["staff"])
        self.check_question(text, select([number(1)], ["staff"], ("exists", select([number(1)], ["notes"], ("exists", deep)))))
        text = "select 1 from notes as x, staff as y where exists (select y.name, day, x.line from tasks as x2)"
        self.check_question(text, select([number(1)], ["notes", "staff"],
                                         ("exists", select([cell(1, 0, 1), cell(0, 0), cell(0, 1, 1)], ["tasks"]))))


class QuestionMeaningTest(CheckingCase):
    def test_names(self):
        self.check_question("select name, pay from staff", select([cell(0, 0), cell(0, 1)], ["staff"]))
        self.check_question("select staff.pay as x from staff", select([cell(0, 1)], ["staff"]))
        self.check_question("select s.pay, boss from staff as s", select([cell(0, 1), cell(0, 2)], ["staff"]))
        self.check_question("select pay, hours, t.name from staff as s, tasks as t where s.name = t.name",
                            select([cell(0, 1), cell(1, 2), cell(1, 1)], ["staff", "tasks"], ("eq", cell(0, 0), cell(1, 1))))
        self.check_question("select a.day, b.day from notes as a, notes as b",
                            select([cell(0, 0), cell(1, 0)], ["notes", "notes"]))

    def test_names_of_items_mean_nothing(self):
        self.check_question("select pay as boss, pay as boss from staff where boss = name",
                            select([cell(0, 1), cell(0, 1)], ["staff"], ("eq", cell(0, 2), cell(0, 0))))

    def test_literals(self):
        self.check_question(f'select {MOST}, "a b", - 3 from staff',
                            select([number(MOST), ("text", "a b"), ("neg", number(3))], ["staff"]))

    def test_gathering(self):
        self.check_question("select count from staff", select([("count",)], ["staff"], None, []))
        self.check_question("select sum(pay), least(name), greatest(pay) + 1 from staff",
                            select([("sum", cell(0, 1)), ("least", cell(0, 0)), ("add", ("greatest", cell(0, 1)), number(1))],
                                   ["staff"], None, []))
        self.check_question("select name from staff group name", select([cell(0, 0)], ["staff"], None, [cell(0, 0)]))
        self.check_question("select 1 from staff group boss, staff.pay",
                            select([number(1)], ["staff"], None, [cell(0, 2), cell(0, 1)]))
        self.check_question("select 1 from staff having count > 3",
                            select([number(1)], ["staff"], None, [], ("gt", ("count",), number(3))))
        self.check_question('select boss, sum(pay * 2) from staff where name <> "x" group boss having least(name) = boss',
                            select([cell(0, 2), ("sum", ("mul", cell(0, 1), number(2)))], ["staff"],
                                   ("ne", cell(0, 0), ("text", "x")), [cell(0, 2)], ("eq", ("least", cell(0, 0)), cell(0, 2))))
        self.check_question("select pay from staff", select([cell(0, 1)], ["staff"]))
        self.check_question("select (1 + (2 * sum(pay))) from staff",
                            select([("add", number(1), ("mul", number(2), ("sum", cell(0, 1))))], ["staff"], None, []))

    def test_gathering_inside_exists_is_its_own(self):
        inner = select([("count",)], ["notes"], None, [])
        self.check_question("select pay from staff where exists (select count from notes)",
                            select([cell(0, 1)], ["staff"], ("exists", inner)))
        inner = select([cell(0, 0)], ["notes"])
        self.check_question("select count from staff where exists (select day from notes)",
                            select([("count",)], ["staff"], ("exists", inner), []))

    def test_sets(self):
        one, two, three = select([cell(0, 0)], ["staff"]), select([cell(0, 1)], ["notes"]), select([("text", "x")], ["tasks"])
        text = 'select name from staff union select line from notes except select "x" from tasks'
        self.check_question(text, ("except", ("union", one, two), three))
        text = 'select name from staff intersect select line from notes union select "x" from tasks'
        self.check_question(text, ("union", ("intersect", one, two), three))

    def test_spans_and_known_parts(self):
        question = select([number(1)], ["staff"])
        cases = [("", (0, END), None), ("at 3", (3, 4), None), ("from 3", (3, END), None), ("from 3 to 9", (3, 9), None),
                 ("always", (0, END), None), ("known 4", (0, END), (4, 5)), ("known 4 to 9", (0, END), (4, 9)),
                 ("at 0 known 0", (0, 1), (0, 1)), (f"from 0 to {END}", (0, END), None),
                 (f"at {END - 1} known {OPEN - 1}", (END - 1, END), (OPEN - 1, OPEN)),
                 (f"known 0 to {OPEN}", (0, END), (0, OPEN))]
        for part, span, known in cases:
            self.check(f"select 1 from staff {part}", ("ask", question, span, known))


class StatementMeaningTest(CheckingCase):
    def test_insert(self):
        self.check('insert notes (1, "a") always', ("insert", "notes", [(1, "a")], (0, END)))
        self.check('insert notes (1 + 2 * 3, "b"), (- 5, ""), (1, "a"), (1, "a") at 7',
                   ("insert", "notes", [(7, "b"), (-5, ""), (1, "a"), (1, "a")], (7, 8)))
        self.check(f'insert notes ({MOST} + 1, "a"), (7 div 0, "a"), (- 7 mod 2, "a") from 3 to 4',
                   ("insert", "notes", [(-MOST, "a"), (0, "a"), (1, "a")], (3, 4)))

    def test_update_and_delete(self):
        self.check("update notes set day = 1 always", ("update", "notes", [(0, number(1))], None, (0, END)))
        self.check('update notes set line = "x", day = day + 1 where day > 3 from 5',
                   ("update", "notes", [(1, ("text", "x")), (0, ("add", cell(0, 0), number(1)))],
                    ("gt", cell(0, 0), number(3)), (5, END)))
        self.check("delete notes always", ("delete", "notes", None, (0, END)))
        self.check("delete notes where day = 3 at 5", ("delete", "notes", ("eq", cell(0, 0), number(3)), (5, 6)))

    def test_table(self):
        self.check("table new (a number, b text)", ("table", "new", [("a", "number"), ("b", "text")], []))
        self.check("table new (a number, b text, c number) key (b, a) most 7 whole require new.a > c refers (b) to staff",
                   ("table", "new", [("a", "number"), ("b", "text"), ("c", "number")],
                    [("key", [1, 0]), ("most", 7), ("whole",), ("require", ("gt", cell(0, 0), cell(0, 2))),
                     ("refers", [1], "staff")]))
        self.check(f"table new (a text) most {MOST}",
                   ("table", "new", [("a", "text")], [("most", MOST)]))
        self.check("table new (" + columns_text(20) + ")",
                   ("table", "new", [(f"c{n}", "number") for n in range(20)], []))

    def test_tables_that_refer_to_themselves(self):
        self.check("table new (a number, b number) refers (b) to new key (a)",
                   ("table", "new", [("a", "number"), ("b", "number")], [("refers", [1], "new"), ("key", [0])]))
        self.check("table new (a number) whole key (a)", ("table", "new", [("a", "number")], [("whole",), ("key", [0])]))

    def test_several_rules_of_a_sort(self):
        self.check("table new (a text, b text) refers (a) to staff refers (b) to staff require a < b require b = b",
                   ("table", "new", [("a", "text"), ("b", "text")],
                    [("refers", [0], "staff"), ("refers", [1], "staff"), ("require", ("lt", cell(0, 0), cell(0, 1))),
                     ("require", ("eq", cell(0, 1), cell(0, 1)))]))
        self.check("table new (a number, b text) refers (b, a) to tasks",
                   ("table", "new", [("a", "number"), ("b", "text")], [("refers", [1, 0], "tasks")]))

    def test_deep_trees(self):
        e = cell(0, 0)
        for _ in range(180):
            e = ("neg", e)
        self.check("delete notes where " + "- " * 180 + "day = 1 always", ("delete", "notes", ("eq", e, number(1)), (0, END)))
        condition = ("eq", cell(0, 0), number(1))
        for _ in range(180):
            condition = ("not", condition)
        self.check("delete notes where " + "not " * 180 + "day = 1 always", ("delete", "notes", condition, (0, END)))
        text = "select 1 from staff where " + "exists (select 1 from staff where " * 19 + "pay = 1" + ")" * 19
        self.assertEqual(str(self.meaning(text)).count("exists"), 19)

    def test_schemas_are_not_needed_for_other_tables(self):
        tree = read_statement("select a from t")
        self.assertEqual(check_statement(tree, {"t": ([("a", "text")], None)}), asked(select([cell(0, 0)], ["t"])))
        self.assertEqual(check_statement(read_statement("table t (a text)"), {}), ("table", "t", [("a", "text")], []))


class NameMistakesTest(CheckingCase):
    def test_unknown_tables(self):
        self.check_mistakes("UnknownName", """
            select 1 from ^nope
            select 1 from staff, ^nope as staff2, nope
            select nope.x, y, count from ^nope
            select 1 from staff where exists (select 1 from ^nope)
            insert ^nope (1, x) at 1000000
            update ^nope set a = b, a = c where count from 5 to 5
            delete ^nope where nope from 5 to 5
            table new (a number) refers (a) to ^nope
            table new (a number) refers (a) to ^new2 key (a)
        """)

    def test_unknown_columns(self):
        self.check_mistakes("UnknownName", """
            select ^nope from staff
            select name, ^day from staff
            select ^staff.nope from staff
            select ^nope.name from staff
            select ^staff.name from staff as s
            select name from staff where ^nope = 1
            select name from staff where ^s.name = name and pay = 1
            select 1 from staff group ^nope
            select 1 from staff group staff.name, ^staff.nope
            select 1 from staff group ^tasks.day
            select 1 from staff having least(^nope) = 1
            select 1 from staff where exists (select ^nope from notes)
            select 1 from staff where exists (select ^notes.pay from notes)
            select 1 from notes where exists (select 1 from staff group ^day)
            select 1 from notes where exists (select 1 from staff group ^notes.day)
            select ^line from staff where exists (select 1 from notes)
            update staff set ^nope = 1 at 3
            update staff set pay = ^nope at 3
            update staff set pay = ^notes.day at 3
            update staff set pay = 1 where ^nope = 1 at 3
            delete staff where ^s.name = boss at 3
            insert notes (^day, "x") at 3
            insert notes (1, ^notes.line) at 3
            insert notes (1, "x"), (2, ^x) at 3
            table new (a number) key (^b)
            table new (a number) key (a, ^new)
            table new (a text) refers (^b) to staff
            table new (a text) require ^b = a
            table new (a text) require ^staff.name = a
            table new (a text) require a = new.a and ^new.b = 1
        """)

    def test_columns_of_unknown_tables_are_no_mistakes(self):
        self.check_mistakes("UnknownName", """
            select x + 1, nope.y, - z, least(w), sum(v) from ^nope
            select day, line, other, nope.pay from notes, ^nope
            select n.x, n.y from staff, ^nope as n
            select 1 from ^nope where x and y
            select x, count from ^nope group y having z
            select 1 from ^nope where exists (select x, other, pay from staff)
            select x from ^nope union select 1 from staff union select "a" from staff
            select 1 from staff where exists (select x, pay + x, boss from ^nope)
        """)
        # The other sources' columns are looked up as ever.
        self.check_mistake("AmbiguousName", "select ^day from notes, tasks, nope")
        self.check_mistake("UnknownName", "select ^notes.x from notes, nope")
        self.check_mistake("WrongKind", "select ^line + 1 from notes, nope")
        self.check_mistake("Misplaced", "select ^line, count from notes, nope")

    def test_sources_hidden_by_nearer_ones(self):
        self.check_mistake("UnknownName", "select 1 from staff as x where exists (select ^x.pay from notes as x)")
        self.check_mistake("UnknownName", "delete staff where exists (select ^staff.pay from notes as staff) at 3")
        self.check_mistake("DuplicateName", "select x.day from notes as x, staff as ^x")
        self.check_mistake("UnknownName", "select ^x.pay from notes as x, staff as x")
        self.check_mistake("UnknownName", "select x.pay from ^nope as x, notes as x")

    def test_duplicates(self):
        self.check_mistakes("DuplicateName", """
            table ^staff (name text)
            table new (a text, ^a number)
            table new (a text, b text, ^a text, b text)
            table new (a text, b text) key (a, b, ^a)
            table new (a text, b number) refers (a, ^a) to tasks
            table new (a text) key (a) ^key (a)
            table new (a text) most 1 ^most 1
            table new (a text) most 1 require a = a ^most 2
            table new (a text) key (a) whole ^whole
            table new (a text) key (a) ^key (b) whole whole
            update staff set pay = 1, ^pay = 2 at 3
            update staff set pay = 1, name = boss, ^pay = nope at 3
            select 1 from staff, ^staff
            select 1 from staff, notes as ^staff
            select 1 from staff as x, notes as y, tasks as ^x
            select 1 from staff group name, pay, ^name
            select 1 from staff group name, ^staff.name
            select 1 from staff as s group s.name, boss, ^name, name
            select 1 from staff where exists (select 1 from notes, ^notes)
        """)
        self.check_right("""
            select 1 from staff as notes, notes as staff
            select 1 from staff where exists (select 1 from staff)
            select a.day from tasks as a, tasks as b group a.day, b.day
            select pay, pay from staff
            table new (a text, b text) key (a, b) refers (a) to staff refers (a) to staff
            update staff set pay = 1, boss = name at 3
            delete staff where exists (select 1 from staff) at 3
        """)

    def test_names_that_stand_twice_mean_the_first_column(self):
        self.check_mistake("DuplicateName", "table new (a text, ^a number) require a = 1")
        self.check_mistake("DuplicateName", "table new (a text, ^a number) refers (a) to staff")

    def test_ambiguous_names(self):
        self.check_mistakes("AmbiguousName", """
            select ^day from notes, tasks
            select 1 from notes, tasks where hours = ^day
            select 1 from notes, tasks group ^day
            select ^name from staff, tasks, notes
            select ^day from notes as a, notes as b
            select least(^day) from notes, tasks
            select 1 from staff where exists (select ^day + 1 from notes, tasks)
            select 1 from notes, tasks where exists (select ^day from staff)
            select ^day from notes, notes
            select day + 1 from tasks where exists (select 1 from notes, tasks where ^day = "x")
        """)
        self.check_right("""
            select notes.day from notes, tasks
            select hours from notes, tasks
            select 1 from notes, tasks where exists (select day from notes)
            select 1 from notes where exists (select day from tasks)
        """)

    def test_ambiguous_names_have_no_kind(self):
        self.check_mistake("AmbiguousName", "select ^day + 1 from notes, tasks")
        self.check_mistake("AmbiguousName", "select 1 from notes, tasks where ^day")
        self.check_mistake("AmbiguousName", 'select 1 from notes, tasks where "x" = ^day')


class KindMistakesTest(CheckingCase):
    def test_values_where_conditions_are_wanted(self):
        self.check_mistakes("WrongKind", """
            select 1 from staff where ^pay
            select 1 from staff where ^1 + 1
            select 1 from staff where ^"x"
            select 1 from staff where ^- pay
            select 1 from staff where not ^name
            select 1 from staff where pay = 1 and ^pay
            select 1 from staff where ^pay and pay = 1
            select 1 from staff where pay = 1 or (^2)
            select 1 from staff having ^count
            select 1 from staff having ^sum(pay)
            select name from staff group name having ^name
            select 1 from staff having ^least(name)
            update staff set pay = 1 where ^pay at 3
            delete staff where ^pay at 3
            table new (a number) require ^a
            table new (a number) require not ^a * 2
        """)

    def test_conditions_where_values_are_wanted(self):
        self.check_mistakes("WrongKind", """
            select ^pay = 1 from staff
            select ^not pay = 1 from staff
            select pay, (^pay = 1 and pay = 2) from staff
            select 1 from staff where (^pay = 1) = 1
            select 1 from staff where 1 = (^pay = 1)
            select 1 from staff where (^pay = 1) + 1 = 2
            select 1 from staff where 1 + (^pay = 1) = 2
            select 1 from staff where - (^pay = 1) = 2
            select 1 + (^pay < 1) from staff
            select sum(^pay = 1) from staff
            select least(^pay = 1) from staff
            select greatest(^not pay = 1) from staff
            insert notes (^1 = 1, "x") at 3
            insert notes (1, ^"x" = "y") at 3
            update staff set pay = ^pay = 1 at 3
            update staff set name = (^name = boss or pay = 1) at 3
        """)

    def test_texts_where_numbers_are_wanted(self):
        self.check_mistakes("WrongKind", """
            select ^"x" + 1 from staff
            select 1 + ^"x" from staff
            select pay - ^name from staff
            select ^name * pay from staff
            select pay div ^name from staff
            select pay mod ^boss from staff
            select - ^name from staff
            select 1 + - ^name from staff
            select sum(^name) from staff
            select 1 + ^greatest(name) from staff
            select ^least(name) + 1 from staff
            select 1 from staff where pay + ^name = 1
            insert notes (1 + ^"x", "y") at 3
            update staff set pay = ^name + 1 at 3
        """)

    def test_comparisons(self):
        self.check_mistakes("WrongKind", """
            select 1 from staff where pay = ^name
            select 1 from staff where name = ^pay
            select 1 from staff where "x" < ^1
            select 1 from staff where 1 >= ^"x"
            select 1 from staff where pay + 1 <> ^name
            select 1 from staff where name <= ^- 1
            select 1 from staff having count > ^"x"
            select 1 from staff having least(name) = ^count
            select 1 from staff having greatest(pay) = ^least(name)
            select 1 from staff where exists (select 1 from notes where line = ^pay)
            delete notes where line = ^day at 3
            table new (a number, b text) require a = ^b
        """)
        self.check_right("""
            select 1 from staff where pay = 1 and name < boss and "x" >= "y" and 1 <> 2 and - pay <= pay + 1
            select 1 from staff having least(name) = greatest(boss) and count = sum(pay) and least(pay) > 1
            table new (a number, b text) require a = 1 require b = "1"
        """)

    def test_kinds_of_columns(self):
        self.check_mistakes("WrongKind", """
            insert notes (^"x", "y") at 3
            insert notes (1, ^1) at 3
            insert notes (1, "y"), (1, ^1 + 1) at 3
            insert notes (1, ^- 1) at 3
            update staff set pay = ^"x" at 3
            update staff set pay = ^name at 3
            update staff set name = boss, boss = ^pay at 3
            update staff set name = ^pay + 1 at 3
        """)

    def test_items_of_later_selects(self):
        self.check_mistakes("WrongKind", """
            select pay from staff union select ^name from staff
            select name from staff except select ^1 from staff
            select pay, name from staff intersect select pay, ^pay from staff
            select pay, name from staff intersect select ^name, pay from staff
            select pay from staff union select 1 from staff union select ^boss from staff
            select count from staff union select ^least(name) from staff
            select 1 from staff where exists (select pay from staff union select ^name from staff)
            select name from staff union select ^pay = 1 from staff
        """)
        self.check_right("""
            select pay, name from staff union select 1, "x" from notes except select count, least(line) from notes
        """)

    def test_rules_that_refer(self):
        self.check_mistakes("WrongKind", """
            table new (a number) refers (^a) to staff
            table new (a number, b text) refers (^a, b) to tasks
            table new (a text, b text) refers (a, ^b) to tasks
            table new (a number, b text) refers (^b) to new key (a)
            table new (a number, b text) key (b, a) refers (^a, b) to new
        """)

    def test_unknown_kinds_fit_everywhere(self):
        self.check_mistakes("UnknownName", """
            select 1 from staff where ^nope
            select 1 from staff where not ^nope
            select 1 from staff where ^nope and pay = 1
            select ^nope + 1 from staff
            select 1 from staff where name = ^nope
            select 1 from staff where ^nope = "x"
            select 1 from staff where ^nope = 1
            select sum(^nope) from staff
            select 1 from staff having least(^nope)
            select least(^nope) + 1 from staff
            select - least(^nope) from staff
            select 1 from staff having greatest(^nope) and count = 1
            select 1 from staff having "x" = least(^nope) or count = 2
            insert notes (^nope, "x") at 3
            update staff set pay = ^nope, name = 1 at 3
            select ^nope from staff union select pay from staff union select name from staff
            select name from staff union select ^nope from staff
            table new (a number) require ^nope
            table new (a number, b number) key (a, ^nope) refers (a, b) to new
            table new (a text, b number) refers (^nope, b) to tasks
        """)
        self.check_mistake("AmbiguousName", "select 1 from notes, tasks having least(^day)")
        self.check_mistake("WrongKind", "select 1 from staff having least(^pay = 1)")
        self.check_mistake("WrongKind", "select least(^pay = 1) + 1 from staff")
        # Arithmetic is a number whatever its operands are, and so are counts and sums.
        self.check_mistake("WrongKind", "select 1 from staff where (^- nope)")
        self.check_mistake("WrongKind", "select 1 from staff having ^sum(nope)")
        self.check_mistake("WrongKind", "select name from staff union select ^- nope from staff")

    def test_misplaced_words_keep_their_kinds(self):
        self.check_mistake("WrongKind", "select ^pay = 1 from staff group name")
        self.check_mistake("WrongKind", "select 1 from staff where name = ^count")
        self.check_mistake("WrongKind", "select 1 from staff where ^count")
        self.check_mistake("WrongKind", "select - ^name from staff group boss")
        self.check_mistake("WrongKind", "select name from staff union select ^pay from staff group boss")


class OtherMistakesTest(CheckingCase):
    def test_counts(self):
        self.check_mistakes("WrongCount", """
            insert notes ^(1) at 3
            insert notes ^(1, "x", 2) at 3
            insert notes (1, "x"), ^(1), (2) at 3
            insert notes ^((nope)) at 3
            insert notes ^("x", 1, 2) at 3
            select name from staff union ^select name, pay from staff
            select name, pay from staff union ^select name from staff
            select name from staff union select boss from staff except ^select pay, name from staff
            select name, pay from staff intersect ^select pay from staff
            select 1 from staff where exists (select 1 from staff union ^select 1, 2 from staff)
            table new (a text, b text) ^refers (a, b) to staff
            table new (a text) ^refers (a) to tasks
            table new (a text, b text) key (a, b) ^refers (a) to new
            table new (a text, b text) ^refers (a) to new key (a, b)
            table new (a text, b text) ^refers (a, nope) to staff
        """)
        self.check_mistake("WrongCount", f"table new ({columns_text(20)}, ^x number)")
        self.check_mistake("WrongCount", f"table new ({columns_text(20)}, ^x number, y text, z text, c0 text) most 0")
        self.check_mistake("DuplicateName", f"table new ({columns_text(20)}, ^c3 number)")

    def test_misplaced_gatherings(self):
        self.check_mistakes("Misplaced", """
            select 1 from staff where ^count = 1
            select 1 from staff where pay = ^sum(pay)
            select 1 from staff where ^least(name) = name
            select 1 from staff where pay < ^greatest(pay)
            select count from staff where ^count = 1
            update staff set pay = ^count at 3
            update staff set pay = 1 + ^sum(pay) at 3
            update staff set pay = 1 where ^count = 1 at 3
            delete staff where ^count = 1 at 3
            insert notes (^count, "x") at 3
            insert notes (1, ^least("x")) at 3
            table new (a number) require ^count = 1
            table new (a number) require a = ^greatest(a)
            select 1 from staff where exists (select count from notes where ^count = 1)
            select sum(^count) from staff
            select sum(1 + ^sum(pay)) from staff
            select least(^least(name)) from staff
            select 1 from staff having greatest(^count) = 1
            select sum(pay + ^greatest(pay)), count from staff
        """)
        self.check_right("""
            select count + sum(pay), least(name) from staff having count > 1 and greatest(pay) = 2
            select 1 from staff where exists (select count from notes having count = 1)
            delete staff where exists (select sum(day) from notes group line) at 3
            select count from staff where exists (select day from notes where day = 1)
        """)

    def test_misplaced_exists(self):
        self.check_mistakes("Misplaced", """
            select 1 from staff having ^exists (select 1 from staff)
            select 1 from staff having count = 1 and not ^exists (select nope from staff)
            table new (a number) require ^exists (select 1 from staff)
            table new (a number) require a = 1 or ^exists (select 1 from new)
            select 1 from staff where exists (select 1 from notes having ^exists (select 1 from notes))
        """)
        # As a value it is also of a wrong kind, which stands first in the list of mistakes.
        self.check_mistakes("WrongKind", """
            select ^exists (select 1 from staff) from staff
            insert notes (^exists (select 1 from staff), "x") at 3
            update staff set pay = ^exists (select 1 from staff) at 3
            select sum(^exists (select 1 from staff)) from staff
        """)
        # What gathers inside of it does not make the select around it gather, in which the name would be misplaced.
        self.check_mistakes("WrongKind", """
            select name, ^exists (select count from notes) from staff
            select name, ^exists (select 1 from notes where count = 1) from staff
            select name, ^exists (select 1 from notes union select count from notes) from staff
            select name, 1 + (^exists (select 1 from notes having count = 1)) from staff
        """)
        self.check_right("""
            select 1 from staff where exists (select 1 from notes where exists (select 1 from tasks))
            select count from staff where not exists (select 1 from notes) or pay = 1 group boss having count = 1
            update staff set pay = 1 where exists (select 1 from notes) at 3
        """)

    def test_misplaced_names(self):
        self.check_mistakes("Misplaced", """
            select ^name, count from staff
            select count, ^staff.name from staff
            select ^pay + sum(pay) from staff
            select ^name from staff group boss
            select boss, ^name from staff group boss
            select ^pay from staff having count = 1
            select 1 from staff having ^name = "x"
            select boss from staff group boss having boss = "x" and ^name = "y"
            select ^b.day from tasks as a, tasks as b group a.day
            select 1 from staff where exists (select ^day, count from notes)
            select ^pay from staff group name, boss
            select 1 from notes where exists (select boss from staff group boss having ^pay = day)
        """)
        self.check_right("""
            select boss, staff.boss, count from staff group boss
            select boss from staff group staff.boss having staff.boss = "x"
            select least(name) from staff group boss
            select sum(pay + pay) from staff having least(name) = "x"
            select count from staff where name = "x" group boss
            select 1 from staff where exists (select pay, count from notes having staff.name = "x")
            select 1 from staff where exists (select staff.pay from notes group line)
            select b.day from tasks as a, tasks as b group b.day
            delete staff where exists (select pay, count from notes) at 3
        """)

    def test_group_names_that_are_mistakes_stand_for_no_column(self):
        self.check_mistake("Misplaced", "select ^pay from staff group nope")
        self.check_mistake("Misplaced", "select notes.day, ^tasks.day from notes, tasks group notes.day, day")
        self.check_mistake("Misplaced", "select ^notes.day from notes, tasks group day")
        self.check_mistake("DuplicateName", "select pay from staff group pay, ^pay")

    def test_wrong_rules(self):
        self.check_mistakes("WrongRule", """
            table new (a text) refers (a) to ^notes
            table new (a text) refers (a) to ^new
            table new (a text) most ^0 refers (nope) to notes
            table new (a text) ^whole
            table new (a text) most ^0
            table new (a text) most ^000 most 0
            table new (a text) ^whole whole
            table new (a text) require a = a refers (a) to ^new whole
        """)
        self.check_right("""
            table new (a text) most 1
            table new (a text) whole key (a)
            table new (a text) refers (a) to new key (a)
        """)

    def test_first_key_rule_counts(self):
        self.check_mistake("DuplicateName", "table new (a text, b number) refers (a) to new key (a) ^key (b)")
        self.check_mistake("WrongKind", "table new (a text, b number) refers (^b) to new key (a) key (b)")
        self.check_mistake("WrongCount", "table new (a text, b text) ^refers (a) to new key (a, b) key (a)")
        self.check_mistake("UnknownName", "table new (a text, b text) refers (a) to new key (^nope)")
        self.check_mistake("DuplicateName", "table new (a text, b number) refers (a, b) to new key (a, ^a)")

    def test_wrong_spans(self):
        self.check_mistakes("WrongSpan", f"""
            select 1 from staff ^at {END}
            select 1 from staff ^from 5 to 5
            select 1 from staff ^from 5 to 4
            select 1 from staff ^from {END}
            select 1 from staff ^from 3 to {END + 1}
            select 1 from staff ^from {MOST} to {MOST}
            select 1 from staff ^known {OPEN}
            select 1 from staff ^known 3 to 3
            select 1 from staff ^known 3 to 2
            select 1 from staff ^known 3 to {OPEN + 1}
            select 1 from staff at 3 ^known {OPEN}
            select 1 from staff ^at {END} known {OPEN}
            insert notes (1, "x") ^at {END}
            insert notes (1, "x") ^from 5 to 5
            update staff set pay = 1 ^from 7 to 3
            delete staff ^from 0 to 0
        """)
        self.check_right(f"""
            select 1 from staff from {END - 1}
            select 1 from staff from 0 to 1 known 0 to 1
            select 1 from staff known {OPEN - 1}
            delete staff from 0 to {END}
        """)


class SeveralMistakesTest(CheckingCase):
    def test_least_place(self):
        self.check_mistake("WrongKind", "select ^name + 1, nope from staff, nope at 1000000")
        self.check_mistake("Misplaced", "select ^pay, count from staff, nope")
        self.check_mistake("UnknownName", "select 1 from ^nope, staff as nope where count = 1")
        self.check_mistake("WrongCount", 'insert notes ^(1), ("x", 1) at 1000000')
        self.check_mistake("WrongKind", 'insert notes (^"x", 1), (1) at 1000000')
        self.check_mistake("AmbiguousName", "select ^day from notes, notes")
        self.check_mistake("DuplicateName", "table new (a text, ^a text) key (b) whole most 0")
        self.check_mistake("UnknownName", "table new (a text) key (^b) whole most 0 key (a)")
        self.check_mistake("WrongRule", "table new (a text) ^whole most 0")
        self.check_mistake("DuplicateName", "table ^notes (a text, a text) key (b)")
        self.check_mistake("WrongKind", "select 1 from staff where ^pay and nope = 1 from 5 to 5")
        self.check_mistake("Misplaced", "select 1 from staff where ^sum(nope) = 1")
        self.check_mistake("WrongSpan", "select 1 from staff ^from 5 to 5 known 5 to 5")
        self.check_mistake("WrongKind", "update staff set pay = ^name, pay = 1, nope = 1 where count = 1 at 3")

    def test_order_at_one_place(self):
        # An unknown or ambiguous name stands before a wrong kind and what is misplaced.
        self.check_mistake("UnknownName", "select ^nope and pay = 1 from staff")
        self.check_mistake("UnknownName", "select 1 from staff where ^nope + 1")
        self.check_mistake("AmbiguousName", "select ^day + 1 = 2 from notes, tasks")
        # A wrong kind stands before what is misplaced.
        self.check_mistake("WrongKind", "select count, ^name + 1 from staff")
        self.check_mistake("WrongKind", "select 1 from staff where ^count")
        self.check_mistake("WrongKind", "select 1 from staff where ^least(name) + 1 = 2")
        self.check_mistake("WrongKind", "select sum(^least(name)) from staff")
        # A second rule stands before what is wrong with the rule itself.
        self.check_mistake("DuplicateName", "table new (a text) most 3 ^most 0")
        self.check_mistake("DuplicateName", "table new (a text, b text) key (a) ^key (a, b, nope)")
        # A name that is twice in a rule stands before its kind.
        self.check_mistake("DuplicateName", "table new (a text, b text) refers (a, ^a) to tasks")
        # An unknown table stands before the name of its source.
        self.check_mistake("UnknownName", "select 1 from ^nope, nope")
        self.check_mistake("WrongKind", "select ^exists (select 1 from staff) from staff")

    def test_mistakes_inside_exists(self):
        self.check_mistake("WrongKind", "select 1 from staff where exists (select ^name + 1 from staff) and nope = 1")
        self.check_mistake("UnknownName", "select 1 from staff where ^nope = 1 and exists (select name + 1 from staff)")
        self.check_mistake("WrongKind", "select 1 from staff where exists (select 1 from staff where exists "
                                        "(select 1 from staff where ^boss)) at 1000000")


if __name__ == "__main__":
    unittest.main()
