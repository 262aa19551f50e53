"""Random statements, whose mistakes are found a second time by the words of the document alone."""

import random
import unittest

from helpers import Unchanged
from pastamended.checking import check_statement
from pastamended.errors import StatementError
from pastamended.plain_answers import plain_answer
from pastamended.plain_changes import plain_change
from pastamended.plain_rules import rule_holds
from pastamended.reading import read_statement
from pastamended.words import words

SCHEMAS = {
    "t": ([("a", "number"), ("b", "text"), ("n", "number")], [0]),
    "s": ([("a", "number"), ("c", "text")], [1, 0]),
    "u": ([("b", "text")], None),
}
TABLES = {"t": [(1, "x", 2), (2, "y", 0)], "s": [(1, "x"), (2, "z")], "u": [("x",), ("z",)]}
ORDER = ["UnknownName", "DuplicateName", "AmbiguousName", "WrongKind", "WrongCount", "Misplaced", "WrongRule", "WrongSpan"]
GATHERINGS = ("count", "sum", "least", "greatest")
CONDITIONS = ("eq", "ne", "lt", "le", "gt", "ge", "and", "or", "not", "exists")


class TextMaker:
    """Makes random texts of statements, most parts of which are right."""

    def __init__(self, random):
        self.random = random
        # The sources of the selects around, each as its name and its columns; the innermost select last.
        self.scopes = []

    def slips(self):
        return self.random.random() < 0.02

    def name(self, kind):
        if self.slips():
            return self.random.choice(["a", "b", "c", "nope", "x.a", "u.b", "nope.a"])
        scope = self.random.choice(self.scopes[-1:] * 3 + self.scopes) if self.scopes else []
        found = [(name, column) for name, columns in scope for column, other in columns if other == kind]
        if not found:
            return "1" if kind == "number" else '"x"'
        name, column = self.random.choice(found)
        holders = [1 for other, one in found if one == column]
        return column if self.random.random() < (0.6 if len(holders) == 1 else 0.1) else f"{name}.{column}"

    def value(self, kind, depth, gathers=False):
        if self.slips():
            kind = self.random.choice(["number", "text", "condition"])
        if kind == "condition":
            return f"({self.condition(depth, gathers)})"
        word = self.random.choice(["name", "name", "literal", "operator", "gathering"])
        if word == "operator" and depth > 0 and kind == "number":
            sign = self.random.choice(["+", "-", "*", "div", "mod"])
            left, right = self.value(kind, depth - 1, gathers), self.value(kind, depth - 1, gathers)
            return self.random.choice([f"({left} {sign} {right})", f"- {left}"])
        if word == "gathering" and (gathers or self.slips()):
            if kind == "number" and self.random.random() < 0.6:
                return self.random.choice(["count", f"sum({self.value(kind, depth - 1)})"])
            return self.random.choice(["least", "greatest"]) + f"({self.value(kind, depth - 1)})"
        if word == "literal":
            return self.random.choice(["1", "2"]) if kind == "number" else self.random.choice(['"x"', '"z"'])
        return self.name(kind)

    def condition(self, depth, gathers=False, asks=False):
        if self.slips():
            return self.value(self.random.choice(["number", "text"]), depth, gathers)
        word = self.random.choice(["compare", "compare", "and", "or", "not", "exists"])
        if depth > 0 and word in ("and", "or"):
            return f"({self.condition(depth - 1, gathers, asks)} {word} {self.condition(depth - 1, gathers, asks)})"
        if depth > 0 and word == "not":
            return f"not ({self.condition(depth - 1, gathers, asks)})"
        if depth > 0 and word == "exists" and (asks or self.slips()):
            return f"exists ({self.question(depth - 1)})"
        kind = self.random.choice(["number", "text"])
        sign = self.random.choice(["=", "<>", "<", "<=", ">", ">="])
        return f"{self.value(kind, depth - 1, gathers)} {sign} {self.value(kind, depth - 1, gathers)}"

    def question(self, depth):
        kinds = [self.random.choice(["number", "text"]) for _ in range(self.random.randrange(1, 3))]
        text = self.select(kinds, depth)
        while self.random.random() < 0.2:
            text += self.random.choice([" union ", " except ", " intersect ", " union "])
            text += self.select(kinds + (["text"] if self.slips() else []), depth)
        return text

    def select(self, kinds, depth):
        sources = self.random.sample(["t", "s", "u", "t as x", "s as x", "u as x"], self.random.randrange(1, 3))
        if self.slips():
            sources.append(self.random.choice(["nope", "t", "nope as x", "t as nope"]))
        gathers = self.random.random() < 0.4
        self.scopes.append([(source.split()[-1], self.columns(source.split()[0])) for source in sources])
        text = "select " + ", ".join([self.value(kind, depth, gathers) for kind in kinds]) + " from " + ", ".join(sources)
        if self.random.random() < 0.5:
            text += " where " + self.condition(depth, False, True)
        if gathers and self.random.random() < 0.7:
            kinds = [self.random.choice(["number", "text"]) for _ in range(self.random.randrange(1, 4))]
            names = [self.name(kind) for kind in kinds]
            text += " group " + ", ".join([name if name[0] in "abcnstux" else "a" for name in names])
        if gathers and self.random.random() < 0.3:
            text += " having " + self.condition(depth, True)
        self.scopes.pop()
        return text

    def statement(self):
        word = self.random.choice(["table", "insert", "update", "delete", "ask", "ask", "ask"])
        if word == "table":
            return self.table()
        if word == "ask":
            known = self.random.choice(["", " known 3", " known 3 to 4", " known 5 to 5" if self.slips() else ""])
            return self.question(3) + self.random.choice(["", self.span()]) + known
        name = "nope" if self.slips() else self.random.choice(["t", "s", "u"])
        columns = self.columns(name)
        if word == "insert":
            rows = [", ".join([self.literal(kind) for _, kind in columns] + (["1"] if self.slips() else []))
                    for _ in range(self.random.randrange(1, 3))]
            return f"insert {name} " + ", ".join([f"({row})" for row in rows]) + self.span()
        self.scopes.append([(name, columns)])
        text = self.change(word, name, columns)
        self.scopes.pop()
        return text

    def columns(self, table):
        return SCHEMAS[table][0] if table in SCHEMAS else [("a", "number"), ("b", "text")]

    def change(self, word, name, columns):
        where = self.random.choice(["", " where " + self.condition(3, False, True)]) + self.span()
        if word == "delete":
            return f"delete {name}" + where
        chosen = self.random.sample(columns, self.random.randrange(1, len(columns) + 1))
        chosen += [("a", "number")] if self.slips() else []
        return f"update {name} set " + ", ".join([f"{one} = {self.value(kind, 2)}" for one, kind in chosen]) + where

    def literal(self, kind):
        if self.slips():
            return self.value(kind, 2)
        return self.random.choice(["1", "- 2", "(1 + 2) * 3"]) if kind == "number" else '"x"'

    def span(self):
        if self.slips():
            return self.random.choice([" from 5 to 5", " at 1000000", " from 7 to 2"])
        return self.random.choice([" always", " at 3", " from 3", " from 3 to 7"])

    def table(self):
        columns = self.random.sample([("a", "number"), ("b", "text"), ("c", "text"), ("n", "number")],
                                     self.random.randrange(2, 5))
        columns += [self.random.choice(columns)] if self.slips() else []
        self.scopes.append([("new", columns)])
        rules = [self.rule([name for name, _ in columns]) for _ in range(self.random.randrange(4))]
        self.scopes.pop()
        name = self.random.choice(["t", "s"]) if self.slips() else "new"
        return f"table {name} (" + ", ".join([f"{one} {kind}" for one, kind in columns]) + ")" + "".join(rules)

    def rule(self, names):
        word = self.random.choice(["key", "refers", "refers", "require", "most", "whole"])
        some = self.random.sample(names, self.random.randrange(1, 3))
        some += [self.random.choice(names + ["nope"])] if self.slips() else []
        if word == "key":
            return f" key ({', '.join(some)})"
        if word == "refers":
            return f" refers ({', '.join(some)}) to " + self.random.choice(["t", "s", "new", "new", "u", "nope"])
        if word == "require":
            return " require " + self.condition(2)
        return self.random.choice([" most 3", " most 0" if self.slips() else " most 7"]) if word == "most" else " whole"


class Finder:
    """Finds all mistakes of a tree. A level is a list of sources; a source is its name and its columns or None."""

    def __init__(self):
        self.found = set()

    def note(self, word, place):
        self.found.add((place, ORDER.index(word)))

    def first(self):
        return min(self.found) if self.found else None

    def meaning(self, levels, source, column):
        """The mistake or "", how far out the column stands (None for unknown ones), its source and its kind."""
        for up, level in enumerate(levels[::-1]):
            if source:
                holders = [at for at, (name, _) in enumerate(level) if name == source][:1]
                if holders and level[holders[0]][1] is not None and column not in dict(level[holders[0]][1]):
                    return ("UnknownName", None, None, None)
                vague = bool(holders) and level[holders[0]][1] is None
            else:
                holders = [at for at, (_, columns) in enumerate(level) if columns is not None and column in dict(columns)]
                vague = not holders and None in [columns for _, columns in level]
            if vague:
                return ("", None, None, None)
            if len(holders) > 1:
                return ("AmbiguousName", None, None, None)
            if holders:
                kinds = [kind for name, kind in level[holders[0]][1] if name == column]
                return ("", up, holders[0], kinds[0])
        return ("UnknownName", None, None, None)

    def kind(self, e, levels):
        """number, text, condition, or None for an unknown kind."""
        if e[0] in CONDITIONS:
            return "condition"
        if e[0] == "name":
            return self.meaning(levels, e[2], e[3])[3]
        if e[0] in ("least", "greatest"):
            kind = self.kind(e[2], levels)
            return None if kind == "condition" else kind
        return "text" if e[0] == "text" else "number"

    def want(self, e, levels, *kinds):
        if self.kind(e, levels) not in kinds + (None,):
            self.note("WrongKind", e[1])

    def expression(self, e, levels, clause, group=None, gathered=False):
        """The clause is a word of the grammar; group is None or a list of the columns that a group means."""
        word, place = e[0], e[1]
        if word == "name":
            mistake, up, source, _ = self.meaning(levels, e[2], e[3])
            if mistake:
                self.note(mistake, place)
            elif up == 0 and group is not None and not gathered and clause in ("items", "having"):
                if (source, e[3]) not in group:
                    self.note("Misplaced", place)
        elif word == "exists":
            if clause != "where":
                self.note("Misplaced", place)
            self.question(e[2], levels)
        else:
            if word in GATHERINGS and (gathered or clause not in ("items", "having")):
                self.note("Misplaced", place)
            for part in [part for part in e[2:] if isinstance(part, tuple)]:
                if word in ("and", "or", "not"):
                    self.want(part, levels, "condition")
                elif word in ("add", "sub", "mul", "div", "mod", "neg", "sum"):
                    self.want(part, levels, "number")
                else:
                    self.want(part, levels, "number", "text")
                self.expression(part, levels, clause, group, gathered or word in GATHERINGS)
            if word in ("eq", "ne", "lt", "le", "gt", "ge"):
                kinds = [self.kind(part, levels) for part in e[2:]]
                if None not in kinds and kinds[0] != kinds[1]:
                    self.note("WrongKind", e[3][1])

    def question(self, question, levels):
        selects = []
        while question[0] != "select":
            selects.insert(0, question[3])
            question = question[2]
        kinds = self.select(question, levels)
        for select in selects:
            others = self.select(select, levels)
            if len(kinds) != len(others):
                self.note("WrongCount", select[1])
            for one, two, (e, _) in zip(kinds, others, select[2]):
                if None not in (one, two) and one != two:
                    self.note("WrongKind", e[1])

    def select(self, select, levels):
        _, _, items, sources, where, group, having = select
        level = []
        for table, place, name, place_of_name in sources:
            if table not in SCHEMAS:
                self.note("UnknownName", place)
            if name in [one for one, _ in level]:
                self.note("DuplicateName", place_of_name)
            level.append((name, SCHEMAS[table][0] if table in SCHEMAS else None))
        inner = levels + [level]
        meant = []
        for _, place, source, column in group or []:
            mistake, _, at, _ = self.meaning([level], source, column)
            if mistake or (at is not None and (at, column) in meant):
                self.note(mistake or "DuplicateName", place)
            elif at is not None:
                meant.append((at, column))
        gathers = group is not None or having is not None or any([self.gathers(e) for e, _ in items])
        for e, _ in items:
            self.want(e, inner, "number", "text")
            self.expression(e, inner, "items", meant if gathers else None)
        if where is not None:
            self.want(where, inner, "condition")
            self.expression(where, inner, "where")
        if having is not None:
            self.want(having, inner, "condition")
            self.expression(having, inner, "having", meant)
        return [self.kind(e, inner) for e, _ in items]

    def gathers(self, e):
        if e[0] == "exists":
            return False
        return e[0] in GATHERINGS or any([self.gathers(part) for part in e[2:] if isinstance(part, tuple)])

    def row_condition(self, e, levels, clause):
        if e is not None:
            self.want(e, levels, "condition")
            self.expression(e, levels, clause)

    def row_value(self, e, kind, levels, clause):
        self.want(e, levels, "number", "text")
        if kind is not None:
            self.want(e, levels, kind, "condition")
        self.expression(e, levels, clause)

    def span(self, span):
        if span is not None and not (0 <= span[1] < span[2] <= 10 ** 6):
            self.note("WrongSpan", span[0])

    def statement(self, tree):
        word = tree[0]
        if word == "table":
            return self.table(tree)
        if word == "ask":
            self.question(tree[2], [])
            self.span(tree[3])
            return self.span(tree[4])
        self.span(tree[-1])
        if tree[2] not in SCHEMAS:
            return self.note("UnknownName", tree[3])
        columns = SCHEMAS[tree[2]][0]
        levels = [[(tree[2], columns)]]
        if word == "insert":
            for place, row in tree[4]:
                if len(row) != len(columns):
                    self.note("WrongCount", place)
                for e, kind in zip(row, [kind for _, kind in columns] + [None] * 9):
                    self.row_value(e, kind, [], "insert")
            return None
        self.row_condition(tree[-2], levels, "where")
        names = [name for name, _, _ in tree[4]] if word == "update" else []
        for at, name in enumerate(names):
            if name not in dict(columns) or name in names[:at]:
                self.note("DuplicateName" if name in dict(columns) else "UnknownName", tree[4][at][1])
            self.row_value(tree[4][at][2], dict(columns).get(name), levels, "set")
        return None

    def table(self, tree):
        _, _, name, place_of_name, columns, rules = tree
        if name in SCHEMAS:
            self.note("DuplicateName", place_of_name)
        first = {}
        for column, place, kind in columns:
            if column in first:
                self.note("DuplicateName", place)
            first.setdefault(column, kind)
        keys = {one: None if key is None else [schema[at][1] for at in key] for one, (schema, key) in SCHEMAS.items()}
        own = [self.kinds(rule[2], first) for rule in rules if rule[0] == "key"]
        keys[name] = own[0] if own else None
        for at, rule in enumerate(rules):
            if rule[0] in ("key", "most", "whole") and rule[0] in [one[0] for one in rules[:at]]:
                self.note("DuplicateName", rule[1])
            self.rule(rule, name, first, keys)

    def kinds(self, names, first):
        return [None if name in [one for one, _ in names[:at]] else first.get(name) for at, (name, _) in enumerate(names)]

    def rule(self, rule, table, first, keys):
        if rule[0] in ("key", "refers"):
            for at, (name, place) in enumerate(rule[2]):
                if name not in first or name in [one for one, _ in rule[2][:at]]:
                    self.note("DuplicateName" if name in first else "UnknownName", place)
        if rule[0] == "refers" and rule[3] not in keys:
            self.note("UnknownName", rule[4])
        elif rule[0] == "refers" and keys[rule[3]] is None:
            self.note("WrongRule", rule[4])
        elif rule[0] == "refers":
            if len(rule[2]) != len(keys[rule[3]]):
                self.note("WrongCount", rule[1])
            for (_, place), one, two in zip(rule[2], self.kinds(rule[2], first), keys[rule[3]]):
                if None not in (one, two) and one != two:
                    self.note("WrongKind", place)
        if rule[0] == "require":
            self.row_condition(rule[2], [[(table, list(first.items()))]], "require")
        if rule[0] == "most" and rule[2] == 0:
            self.note("WrongRule", rule[3])
        if rule[0] == "whole" and keys[table] is None:
            self.note("WrongRule", rule[1])


class RandomStatementsTest(unittest.TestCase):
    def outcome(self, tree):
        try:
            return Unchanged(self)(check_statement, tree, SCHEMAS), None
        except StatementError as mistake:
            return None, (mistake.place, ORDER.index(mistake.__class__.__name__))

    def test_random_statements(self):
        source = random.Random(51)
        maker = TextMaker(source)
        seen = set()
        for _ in range(10000):
            text = maker.statement()
            if len(words(text)) > 200:
                continue
            tree = read_statement(text)
            finder = Finder()
            finder.statement(tree)
            meaning, mistake = self.outcome(tree)
            self.assertEqual(mistake, finder.first(), text)
            seen.add("right " + tree[0] if mistake is None else ORDER[mistake[1]])
            if meaning is not None:
                self.carry_out(meaning)
        self.assertLessEqual(set(ORDER) | {"right " + word for word in ("table", "insert", "update", "delete", "ask")}, seen)

    def carry_out(self, meaning):
        """What has no mistake can be done over tables that fit, and gives values of the right kinds."""
        if meaning[0] == "ask":
            plain_answer(meaning[1], TABLES)
        elif meaning[0] == "table":
            kinds = [kind for _, kind in meaning[2]]
            rows = [tuple([1 if kind == "number" else "x" for kind in kinds])]
            keys = {**{name: key for name, (_, key) in SCHEMAS.items() if key is not None},
                    "new": [rule[1] for rule in meaning[3] if rule[0] == "key"][:1]}
            keys["new"] = keys["new"][0] if keys["new"] else None
            for rule in meaning[3]:
                rule_holds(rule, rows, {**TABLES, "new": rows}, keys)
        else:
            for row in plain_change(meaning, TABLES):
                kinds = [kind for _, kind in SCHEMAS[meaning[1]][0]]
                self.assertEqual(["text" if isinstance(value, str) else "number" for value in row], kinds)


if __name__ == "__main__":
    unittest.main()
