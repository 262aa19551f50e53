"""Reading questions and expressions, which contain each other."""

from pastamended.cursor import Cursor

OPERATORS = {
    "=": "eq", "<>": "ne", "<": "lt", "<=": "le", ">": "gt", ">=": "ge",
    "+": "add", "-": "sub", "*": "mul", "div": "div", "mod": "mod",
}
COMPARISONS = ("=", "<>", "<", "<=", ">", ">=")


class QuestionReader(Cursor):
    """Reads the lines of the grammar from `question` down, one method for each."""

    def read_question(self):
        left = self.read_select()
        while word := self.take_one(("union", "except", "intersect")):
            left = (word, left[1], left, self.read_select())
        return left

    def read_select(self):
        place = self.here()
        self.need("select")
        items = [self.read_item()]
        while self.take(","):
            items.append(self.read_item())
        self.need("from")
        sources = [self.read_source()]
        while self.take(","):
            sources.append(self.read_source())
        where = self.read_behind("where")
        group = self.read_group() if self.take("group") else None
        having = self.read_behind("having")
        return ("select", place, items, sources, where, group, having)

    def read_item(self):
        e = self.read_e()
        return (e, self.need_sort("name") if self.take("as") else "")

    def read_source(self):
        table, place = self.read_named()
        name, place_of_name = self.read_named() if self.take("as") else (table, place)
        return (table, place, name, place_of_name)

    def read_group(self):
        group = [self.read_column_name()]
        while self.take(","):
            group.append(self.read_column_name())
        return group

    def read_named(self):
        """A name and its place."""
        place = self.here()
        return (self.need_sort("name"), place)

    def read_behind(self, keyword):
        """The expression behind a keyword, or None if the keyword is missing."""
        return self.read_e() if self.take(keyword) else None

    def read_e(self):
        left = self.read_both()
        while self.take("or"):
            left = ("or", left[1], left, self.read_both())
        return left

    def read_both(self):
        left = self.read_test()
        while self.take("and"):
            left = ("and", left[1], left, self.read_test())
        return left

    def read_test(self):
        place = self.here()
        if self.take("not"):
            return ("not", place, self.read_test())
        if self.take("exists"):
            self.need("(")
            question = self.read_question()
            self.need(")")
            return ("exists", place, question)
        left = self.read_amount()
        sign = self.take_one(COMPARISONS)
        if sign:
            return (OPERATORS[sign], left[1], left, self.read_amount())
        return left

    def read_amount(self):
        left = self.read_term()
        while sign := self.take_one(("+", "-")):
            left = (OPERATORS[sign], left[1], left, self.read_term())
        return left

    def read_term(self):
        left = self.read_factor()
        while sign := self.take_one(("*", "div", "mod")):
            left = (OPERATORS[sign], left[1], left, self.read_factor())
        return left

    def read_factor(self):
        place = self.here()
        if self.take("-"):
            return ("neg", place, self.read_factor())
        if self.sees("("):
            return self.read_enclosed()
        for sort in ("number", "text"):
            if self.sees_sort(sort):
                return (sort, place, self.need_sort(sort))
        if self.take("count"):
            return ("count", place)
        gathering = self.take_one(("sum", "least", "greatest"))
        if gathering:
            return (gathering, place, self.read_enclosed())
        return self.read_column_name()

    def read_enclosed(self):
        """An expression in parentheses."""
        self.need("(")
        e = self.read_e()
        self.need(")")
        return e

    def read_column_name(self):
        name, place = self.read_named()
        if self.take("."):
            return ("name", place, name, self.need_sort("name"))
        return ("name", place, "", name)
