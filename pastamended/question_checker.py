"""Checking questions and expressions, which contain each other."""

from pastamended.gatherings import GATHERINGS
from pastamended.mistakes import Mistakes
from pastamended.scopes import meaning_at, meaning_within

# For each operator but the comparisons, the kind of its operands, which is also that of its result.
OPERATORS = {
    "and": "condition", "or": "condition", "not": "condition",
    "neg": "number", "add": "number", "sub": "number", "mul": "number", "div": "number", "mod": "number",
}
COMPARISONS = ("eq", "ne", "lt", "le", "gt", "ge")


class Clause:
    """Where an expression stands: the sources around it, outermost first, and what may stand there.

    The cells are None if all may stand there, otherwise those of the own sources that may.
    """

    def __init__(self, levels, may_gather=False, may_ask=False, cells=None):
        self.levels = levels
        self.may_gather = may_gather
        self.may_ask = may_ask
        self.cells = cells


class QuestionChecker(Mistakes):
    """Turns trees of questions and expressions into meanings and collects their mistakes."""

    def __init__(self, schemas):
        super().__init__()
        self.columns = {name: tuple(schemas[name][0]) for name in schemas}

    def checked(self, e, clause, wanted="unknown"):
        """The meaning of an expression where this kind is wanted, and its kind: unknown if it does not fit."""
        word = e[0]
        if word in OPERATORS:
            kind = OPERATORS[word]
            meaning = (word,)
            for operand in e[2:]:
                meaning = meaning + (self.checked(operand, clause, kind)[0],)
        elif word in COMPARISONS:
            left, kind_of_left = self.checked(e[2], clause)
            right, _ = self.checked(e[3], clause, kind_of_left)
            meaning, kind = (word, left, right), "condition"
        elif word == "name":
            meaning, kind = self.checked_name(e, clause)
        elif word in GATHERINGS:
            meaning, kind = self.checked_gathering(e, clause)
        elif word == "exists":
            meaning, kind = self.checked_exists(e, clause), "condition"
        else:
            meaning, kind = (word, e[2]), word
        if fits(kind, wanted):
            return (meaning, kind)
        self.note("kind", e[1])
        return (meaning, "unknown")

    def checked_condition(self, e, clause):
        """The meaning of a condition; None for none."""
        return None if e is None else self.checked(e, clause, "condition")[0]

    def checked_name(self, e, clause):
        _, place, source, column = e
        word, cell, kind = meaning_within(clause.levels, source, column)
        if word == "column":
            if cell[1] == 0 and clause.cells is not None and cell not in clause.cells:
                self.note("misplaced", place)
        elif word != "any":
            self.note(word, place)
        return (cell, kind)

    def checked_gathering(self, e, clause):
        word = e[0]
        if not clause.may_gather:
            self.note("misplaced", e[1])
        if word == "count":
            return ((word,), "number")
        inner = Clause(clause.levels, False, clause.may_ask)
        meaning, kind = self.checked(e[2], inner, "number" if word == "sum" else "unknown")
        return ((word, meaning), "number" if word == "sum" else kind)

    def checked_exists(self, e, clause):
        if not clause.may_ask:
            self.note("misplaced", e[1])
        return ("exists", self.checked_question(e[2], clause.levels)[0])

    def checked_question(self, tree, outer):
        """The meaning of a question within the levels around it, and the kinds of its first select's items."""
        if tree[0] == "select":
            return self.checked_select(tree, outer, [])
        left, kinds = self.checked_question(tree[2], outer)
        right, others = self.checked_select(tree[3], outer, kinds)
        if len(others) != len(kinds):
            self.note("count", tree[3][1])
        return ((tree[0], left, right), kinds)

    def checked_select(self, tree, outer, wanted):
        """The meaning of a select, whose items are of the wanted kinds as far as these go, and its items' kinds."""
        _, _, items, sources, where, group, having = tree
        level = self.checked_sources(sources)
        levels = outer + (level,)
        cells = self.checked_group(group, level) if gathers(tree) else None
        head = Clause(levels, True, False, None if cells is None else tuple(cells))
        meanings = []
        kinds = []
        for at, (e, _) in enumerate(items):
            meaning, kind = self.checked(e, head, wanted[at] if at < len(wanted) else "unknown")
            meanings.append(meaning)
            kinds.append(kind)
        condition = self.checked_condition(where, Clause(levels, False, True))
        tables = [table for table, _, _, _ in sources]
        return (("select", meanings, tables, condition, cells, self.checked_condition(having, head)), kinds)

    def checked_sources(self, sources):
        """The level of the sources of a select."""
        level = ()
        for table, place, name, place_of_name in sources:
            if table not in self.columns:
                self.note("unknown name", place)
            if name in [earlier for earlier, _ in level]:
                self.note("duplicate name", place_of_name)
            level = level + ((name, self.columns.get(table)),)
        return level

    def checked_group(self, group, level):
        """The cells that the names of a group mean; None has no names."""
        cells = []
        for _, place, source, column in group or []:
            word, at, index, _ = meaning_at(level, source, column)
            cell = ("cell", 0, at, index)
            if word == "nothing":
                self.note("unknown name", place)
            elif word == "column" and cell in cells:
                self.note("duplicate name", place)
            elif word == "column":
                cells.append(cell)
            elif word != "any":
                self.note(word, place)
        return cells


def fits(kind, wanted):
    """Whether an expression of this kind may stand where the other one is wanted; unknown wants any value."""
    if wanted == "unknown":
        return kind != "condition"
    return kind in (wanted, "unknown")


def gathers(select):
    """Whether the tree of a select gathers."""
    _, _, items, _, _, group, having = select
    return group is not None or having is not None or any([_has_gathering(e) for e, _ in items])


def _has_gathering(e):
    """Whether a gathering stands in an expression; those inside an exists belong to the selects there."""
    if e[0] in GATHERINGS:
        return True
    for operand in e[2:]:
        if e[0] != "exists" and isinstance(operand, tuple) and _has_gathering(operand):
            return True
    return False
