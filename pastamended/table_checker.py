"""Checking statements that make a table."""

from pastamended.question_checker import Clause, QuestionChecker
from pastamended.scopes import index_of_column

MOST_COLUMNS = 20


class TableChecker(QuestionChecker):
    """Turns trees of tables into meanings and collects their mistakes."""

    def __init__(self, schemas):
        super().__init__(schemas)
        self.kinds_of_keys = {name: _kinds_of_key(schemas[name]) for name in schemas}

    def checked_table(self, tree):
        _, _, name, place_of_name, columns, rules = tree
        if name in self.columns:
            self.note("duplicate name", place_of_name)
        for at, (column, place, _) in enumerate(columns):
            if column in [earlier for earlier, _, _ in columns[:at]]:
                self.note("duplicate name", place)
            if at == MOST_COLUMNS:
                self.note("count", place)
        own = [(column, kind) for column, _, kind in columns]
        keys = [named_columns(rule[2], own) for rule in rules if rule[0] == "key"]
        # From here on the table is one of those that there are: it may refer to itself.
        self.columns[name] = tuple(own)
        self.kinds_of_keys[name] = [kind for _, _, kind in keys[0]] if keys else None
        meanings = []
        for at, rule in enumerate(rules):
            if rule[0] in ("key", "most", "whole") and rule[0] in [earlier[0] for earlier in rules[:at]]:
                self.note("duplicate name", rule[1])
            meanings.append(self.checked_rule(rule, name))
        return ("table", name, own, meanings)

    def checked_rule(self, rule, name):
        word, place = rule[0], rule[1]
        if word == "key":
            return (word, self.checked_names(rule[2], name))
        if word == "refers":
            return self.checked_refers(rule, name)
        if word == "require":
            return (word, self.checked_condition(rule[2], Clause((((name, self.columns[name]),),))))
        if word == "most":
            if rule[2] == 0:
                self.note("rule", rule[3])
            return (word, rule[2])
        if self.kinds_of_keys[name] is None:
            self.note("rule", place)
        return (word,)

    def checked_names(self, names, table):
        """The indexes of the columns that the names of a rule mean."""
        found = named_columns(names, self.columns[table])
        for (word, _, _), (_, place) in zip(found, names):
            if word != "column":
                self.note(word, place)
        return [index for _, index, _ in found]

    def checked_refers(self, rule, table):
        _, place, names, other, place_of_other = rule
        indexes = self.checked_names(names, table)
        if other not in self.columns:
            self.note("unknown name", place_of_other)
        elif self.kinds_of_keys[other] is None:
            self.note("rule", place_of_other)
        else:
            self.note_other_kinds(rule, table)
        return ("refers", indexes, other)

    def note_other_kinds(self, rule, table):
        """Notes that the columns of a rule are not as many as those of the key or not of their kinds."""
        _, place, names, other, _ = rule
        wanted = self.kinds_of_keys[other]
        if len(names) != len(wanted):
            self.note("count", place)
        found = named_columns(names, self.columns[table])
        for (_, _, kind), kind_of_key, (_, place_of_name) in zip(found, wanted, names):
            if kind != kind_of_key and "unknown" not in (kind, kind_of_key):
                self.note("kind", place_of_name)


def named_columns(names, columns):
    """For each name of a rule: "column" or the word of its mistake, the index of the column, and its kind."""
    found = []
    for at, (name, _) in enumerate(names):
        index = index_of_column(columns, name)
        if index is None:
            found.append(("unknown name", 0, "unknown"))
        elif name in [earlier for earlier, _ in names[:at]]:
            found.append(("duplicate name", index, "unknown"))
        else:
            found.append(("column", index, columns[index][1]))
    return found


def _kinds_of_key(schema):
    columns, key = schema
    return None if key is None else [columns[index][1] for index in key]
