"""Checking statements: the meaning of a tree, or its first mistake."""

from pastamended.plain_answers import values_of
from pastamended.question_checker import Clause
from pastamended.scopes import index_of_column
from pastamended.table_checker import TableChecker
from pastamended.values import END, OPEN


def check_statement(tree, schemas):
    """The meaning of a statement; raises the StatementError of its first mistake."""
    checker = StatementChecker(schemas)
    meaning = checker.checked_statement(tree)
    checker.raise_first()
    # Values are computed last, because expressions with mistakes have none.
    if meaning[0] == "insert":
        _, table, rows, span = meaning
        return ("insert", table, [values_of(row, [], {}) for row in rows], span)
    return meaning


class StatementChecker(TableChecker):
    """Turns trees of statements into meanings and collects their mistakes."""

    def checked_statement(self, tree):
        """The meaning of a statement; None if its table is unknown, behind which no other mistake counts."""
        word = tree[0]
        if word == "table":
            return self.checked_table(tree)
        if word == "ask":
            return self.checked_ask(tree)
        if tree[2] not in self.columns:
            self.note("unknown name", tree[3])
            return None
        if word == "insert":
            return self.checked_insert(tree)
        if word == "update":
            return self.checked_update(tree)
        return self.checked_delete(tree)

    def checked_ask(self, tree):
        _, _, question, span, known = tree
        meaning, _ = self.checked_question(question, ())
        bounds = (0, END) if span is None else self.checked_span(span, END)
        return ("ask", meaning, bounds, None if known is None else self.checked_span(known, OPEN))

    def checked_insert(self, tree):
        """The meaning of an insert, with expressions in the places of the values."""
        _, _, table, _, rows, span = tree
        kinds = [kind for _, kind in self.columns[table]]
        meanings = []
        for place, row in rows:
            if len(row) != len(kinds):
                self.note("count", place)
            wanted = kinds + ["unknown"] * len(row)
            meanings.append([self.checked(e, Clause(()), kind)[0] for e, kind in zip(row, wanted)])
        return ("insert", table, meanings, self.checked_span(span, END))

    def checked_update(self, tree):
        _, _, table, _, sets, where, span = tree
        columns = self.columns[table]
        levels = (((table, columns),),)
        meanings = []
        for at, (name, place, e) in enumerate(sets):
            index = index_of_column(columns, name)
            if index is None:
                self.note("unknown name", place)
            elif name in [earlier for earlier, _, _ in sets[:at]]:
                self.note("duplicate name", place)
            kind = "unknown" if index is None else columns[index][1]
            meanings.append((index, self.checked(e, Clause(levels), kind)[0]))
        condition = self.checked_condition(where, Clause(levels, False, True))
        return ("update", table, meanings, condition, self.checked_span(span, END))

    def checked_delete(self, tree):
        _, _, table, _, where, span = tree
        levels = (((table, self.columns[table]),),)
        condition = self.checked_condition(where, Clause(levels, False, True))
        return ("delete", table, condition, self.checked_span(span, END))

    def checked_span(self, span, most):
        """The bounds of a span or known part that begins at 0 or later and ends at most at this number."""
        place, a, b = span
        if not 0 <= a < b <= most:
            self.note("span", place)
        return (a, b)
