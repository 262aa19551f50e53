"""Reading statements: the tree of a text."""

from pastamended.question_reader import QuestionReader
from pastamended.values import END

RULES = ("key", "refers", "require", "most", "whole")
SPANS = ("from", "at", "always")


def read_statement(text):
    """The tree of the statement; raises SyntaxFault if the text is none."""
    reader = StatementReader(text)
    tree = reader.read_any()
    reader.need_end()
    return tree


class StatementReader(QuestionReader):
    """Reads the lines of the grammar that stand above `question`."""

    def read_any(self):
        place = self.here()
        word = self.take_one(("table", "insert", "update", "delete"))
        if word == "":
            return self.read_ask(place)
        name, place_of_name = self.read_named()
        head = (word, place, name, place_of_name)
        if word == "table":
            return head + self.read_columns_and_rules()
        if word == "insert":
            return head + (self.read_rows(), self.read_span())
        if word == "update":
            return head + (self.read_sets(), self.read_behind("where"), self.read_span())
        return head + (self.read_behind("where"), self.read_span())

    def read_columns_and_rules(self):
        self.need("(")
        columns = [self.read_column()]
        while self.take(","):
            columns.append(self.read_column())
        self.need(")")
        rules = []
        while self.sees_one(RULES):
            rules.append(self.read_rule())
        return (columns, rules)

    def read_column(self):
        name, place = self.read_named()
        kind = "number" if self.take("number") else "text"
        if kind == "text":
            self.need("text")
        return (name, place, kind)

    def read_rule(self):
        place = self.here()
        word = self.take_one(RULES)
        if word == "key":
            return (word, place, self.read_names())
        if word == "refers":
            names = self.read_names()
            self.need("to")
            table, place_of_table = self.read_named()
            return (word, place, names, table, place_of_table)
        if word == "require":
            return (word, place, self.read_e())
        if word == "most":
            place_of_number = self.here()
            return (word, place, self.need_sort("number"), place_of_number)
        return (word, place)

    def read_names(self):
        self.need("(")
        names = [self.read_named()]
        while self.take(","):
            names.append(self.read_named())
        self.need(")")
        return names

    def read_rows(self):
        rows = [self.read_row()]
        while self.take(","):
            rows.append(self.read_row())
        return rows

    def read_row(self):
        place = self.here()
        self.need("(")
        row = [self.read_e()]
        while self.take(","):
            row.append(self.read_e())
        self.need(")")
        return (place, row)

    def read_sets(self):
        self.need("set")
        sets = [self.read_set()]
        while self.take(","):
            sets.append(self.read_set())
        return sets

    def read_set(self):
        name, place = self.read_named()
        self.need("=")
        return (name, place, self.read_e())

    def read_span(self):
        place = self.here()
        if self.take("always"):
            return (place, 0, END)
        if self.take("at"):
            moment = self.need_sort("number")
            return (place, moment, moment + 1)
        self.need("from")
        begin = self.need_sort("number")
        return (place, begin, self.need_sort("number") if self.take("to") else END)

    def read_ask(self, place):
        question = self.read_question()
        span = self.read_span() if self.sees_one(SPANS) else None
        known = self.read_known() if self.sees("known") else None
        return ("ask", place, question, span, known)

    def read_known(self):
        place = self.here()
        self.need("known")
        begin = self.need_sort("number")
        return (place, begin, self.need_sort("number") if self.take("to") else begin + 1)
