"""A second store, which keeps the rows of each moment at each known number, and random statements to hold stores to it.

The moments from LAST on are kept as one: all spans of the random statements begin and end below it, or end at END.
"""

from pastamended.checking import check_statement
from pastamended.errors import Conflict, DatabaseError, NotYetKnown, RuleBroken
from pastamended.plain_answers import plain_answer
from pastamended.plain_changes import plain_change
from pastamended.plain_rules import rule_holds
from pastamended.reading import read_statement
from pastamended.relations import cut
from pastamended.values import END, OPEN

LAST = 9
MOMENTS = range(LAST + 1)


def moments_of(span):
    return [m for m in MOMENTS if span[0] <= m < span[1]]


def weight(moment):
    """How many moments a kept one stands for."""
    return END - LAST if moment == LAST else 1


def meaning_of(text, schemas):
    return check_statement(read_statement(text), schemas)


class ModelStore:
    """For each known number the rows of each table at each moment."""

    def __init__(self):
        self.states = [{}]
        self.schemas = {}
        self.rules = {}

    @property
    def known(self):
        return len(self.states) - 1

    def begin(self):
        return ModelTransaction(self)

    def rows(self, name, moment, known):
        """The rows of a table, also at a known number at which it was not made."""
        return self.states[known].get(name, {}).get(moment, [])

    def commit(self, transaction):
        prepared = transaction if transaction.known == self.known else self.replay(transaction)
        if prepared.pending != self.states[-1]:
            prepared.check_rules()
            self.states.append(prepared.pending)
            self.schemas, self.rules = prepared.schemas, prepared.rules
        transaction.undo()
        return self.known

    def replay(self, transaction):
        replay = ModelTransaction(self)
        for index, (statement, before) in enumerate(transaction.done):
            if statement[0] == "table" and statement[1] in replay.schemas:
                raise Conflict(index)
            if replay.apply(statement) != before:
                raise Conflict(index)
        return replay


class ModelTransaction:
    def __init__(self, store):
        self.store = store
        self.undo()

    def undo(self):
        self.known = self.store.known
        self.pending = {name: dict(rows) for name, rows in self.store.states[-1].items()}
        self.schemas = dict(self.store.schemas)
        self.rules = dict(self.store.rules)
        self.done = []

    def apply(self, statement):
        answer = self.answer(statement)
        self.done.append((statement, answer))
        return answer

    def answer(self, statement):
        """Like that of a transaction; instead of a relation a dict from points to rows, with None for what is next."""
        if statement[0] == "table":
            _, name, columns, rules = statement
            keys = [rule[1] for rule in rules if rule[0] == "key"]
            self.schemas[name] = (columns, keys[0] if keys else None)
            self.rules[name] = rules
            self.pending[name] = {m: [] for m in MOMENTS}
            return ("made", name)
        if statement[0] == "ask":
            _, question, span, known = statement
            if known is None:
                return ("answer", {(m, None): plain_answer(question, self.at(m)) for m in moments_of(span)})
            if known[1] - 1 > self.known:
                raise NotYetKnown(known[1] - 1)
            return ("answer", {(m, k): plain_answer(question, self.at(m, k))
                               for m in moments_of(span) for k in range(*known)})
        return ("changed", self.change(statement))

    def change(self, statement):
        rows = dict(self.pending[statement[1]])
        for m in moments_of(statement[-1]):
            rows[m] = plain_change(statement, self.at(m))
        old = self.pending[statement[1]]
        self.pending[statement[1]] = rows
        return sum([weight(m) * len(set(old[m]) ^ set(rows[m])) for m in MOMENTS])

    def at(self, moment, known=None):
        if known is None:
            return {name: self.pending[name][moment] for name in self.pending}
        return {name: self.store.rows(name, moment, known) for name in self.pending}

    def check_rules(self):
        keys = {name: key for name, (_, key) in self.schemas.items() if key is not None}
        for m in MOMENTS:
            for name in self.pending:
                for index, rule in enumerate(self.rules[name]):
                    if not rule_holds(rule, self.pending[name][m], self.at(m), keys):
                        raise RuleBroken(name, index, m)
                    if rule[0] == "whole" and self.comes_back(name, keys[name], m):
                        raise RuleBroken(name, index, m)

    def comes_back(self, name, key, moment):
        """Whether values of the key stand at a moment, not at the one before it, and somewhere before that."""
        found = [{tuple([row[column] for column in key]) for row in self.pending[name][m]} for m in range(moment + 1)]
        return any([found[moment] - found[moment - 1] & early for early in found[:max(0, moment - 1)]])


def check_answer(case, found, expected, known):
    """Holds an answer of a transaction with this known number against that of the model."""
    if expected[0] != "answer":
        case.assertEqual(found, expected)
        return
    case.assertEqual(found[0], "answer")
    points = {(m, known + 1 if k is None else k): rows for (m, k), rows in expected[1].items()}
    for m in MOMENTS:
        for k in range(known + 4):
            case.assertEqual(cut(found[1], m, k), points.get((m, k), []), (m, k))


def check_store(case, store, model):
    """Holds a store against the model, at all points and beyond."""
    case.assertEqual(store.known, model.known)
    case.assertEqual(store.table_names(), list(model.schemas))
    case.assertEqual(store.schemas(), model.schemas)
    relations = store.relations()
    case.assertEqual(list(relations), list(model.schemas))
    for name in relations:
        case.assertEqual(store.rules_of(name), model.rules[name])
        for m in MOMENTS:
            for k in range(model.known + 1):
                case.assertEqual(cut(relations[name], m, k), model.rows(name, m, k), (name, m, k))
            for k in (model.known + 1, OPEN - 1):
                case.assertEqual(cut(relations[name], m, k), model.rows(name, m, model.known), (name, m, k))


TABLES = (
    "table t (a number, b text) key (a)",
    "table s (a number, n number) refers (a) to t",
    "table u (a number) most 4",
    "table w (a number, b text) key (a) whole",
    "table r (n number, a number) key (n, a) require n <= a + 2",
    "table s (b text)",
)
SHORT = ("a", "b", "c")


class TextMaker:
    """Makes the texts of random statements that have no mistakes."""

    def __init__(self, random):
        self.random = random

    def statement(self, schemas, known):
        """A statement over tables with these schemas; a question may name known numbers a little beyond this one."""
        free = [text for text in TABLES if text.split()[1] not in schemas and ("to t" not in text or "t" in schemas)]
        word = self.random.choice(["table"] + ["insert"] * 4 + ["update", "update", "delete", "ask", "ask"])
        if not schemas or (word == "table" and free):
            return self.random.choice(free)
        if word == "ask" or word == "table":
            return self.ask(schemas, known)
        name = self.random.choice(sorted(schemas))
        columns = schemas[name][0]
        here = [(name, columns)]
        if word == "insert":
            rows = [self.row(columns) for _ in range(self.random.randrange(1, 3))]
            return f"insert {name} {', '.join(rows)} {self.span()}"
        where = self.maybe("where", lambda: self.condition(schemas, here, 2), 0.8)
        if word == "delete":
            return f"delete {name}{where} {self.span()}"
        sets = [f"{column} = {self.value(kind, here, 1)}" for column, kind in columns if self.random.random() < 0.6]
        column, kind = columns[0]
        return f"update {name} set {', '.join(sets) or column + ' = ' + self.value(kind, here, 1)}{where} {self.span()}"

    def maybe(self, keyword, make, chance=0.5):
        return f" {keyword} {make()}" if self.random.random() < chance else ""

    def row(self, columns):
        return f"({', '.join([self.literal(kind) for _, kind in columns])})"

    def literal(self, kind):
        if kind == "text":
            return f'"{self.random.choice(SHORT)}"'
        return self.random.choice(["0", "1", "2", "3", "4", "- 1", "1 + 1"])

    def span(self):
        a, b = sorted(self.random.sample(range(LAST + 1), 2))
        return self.random.choice(["always", f"at {a}", f"from {a}", f"from {a} to {b}", f"from {a} to {b}"])

    def ask(self, schemas, known):
        kinds = [self.random.choice(["number", "text"]) for _ in range(self.random.randrange(1, 3))]
        text = self.select(schemas, kinds, [], 2)
        while self.random.random() < 0.2:
            text += f" {self.random.choice(['union', 'except', 'intersect'])} {self.select(schemas, kinds, [], 1)}"
        j = self.random.randrange(known + 3)
        k = j + self.random.randrange(1, 4)
        parts = [f"known {j}", f"known {j} to {k}", f"known 0 to {known + 1}", f"known {known + 1}"]
        return text + self.maybe("", self.span) + self.maybe("", lambda: self.random.choice(parts), 0.4)

    def select(self, schemas, kinds, outer, depth):
        """A select within sources around it; each source has a name of its own."""
        names = [self.random.choice(sorted(schemas)) for _ in range(self.random.choice([1, 1, 2]))]
        own = [(f"x{len(outer) + at}", schemas[name][0]) for at, name in enumerate(names)]
        tables = ", ".join([f"{name} as {source}" for name, (source, _) in zip(names, own)])
        where = self.maybe("where", lambda: self.condition(schemas, outer + own, depth))
        if self.random.random() < 0.3:
            cells = [(f"{source}.{column}", kind) for source, columns in own for column, kind in columns]
            group = self.random.sample(cells, self.random.randrange(min(2, len(cells) + 1)))
            items = ", ".join([self.gathered(kind, own, group) for kind in kinds])
            named = f" group {', '.join([cell for cell, _ in group])}" if group else ""
            having = self.maybe("having", lambda: f"count > {self.literal('number')}", 0.3)
            return f"select {items} from {tables}{where}{named}{having}"
        items = ", ".join([self.value(kind, outer + own, 1) for kind in kinds])
        return f"select {items} from {tables}{where}"

    def gathered(self, kind, own, group):
        cells = [cell for cell, other in group if other == kind]
        if cells and self.random.random() < 0.5:
            return self.random.choice(cells)
        if kind == "number" and self.random.random() < 0.6:
            return self.random.choice(["count", f"sum ({self.value(kind, own, 1)})"])
        return f"{self.random.choice(['least', 'greatest'])} ({self.value(kind, own, 1)})"

    def value(self, kind, sources, depth):
        if kind == "number" and depth > 0 and self.random.random() < 0.3:
            sign = self.random.choice(["+", "-", "*", "div", "mod"])
            return f"({self.value(kind, sources, depth - 1)} {sign} {self.value(kind, sources, depth - 1)})"
        cells = [f"{source}.{column}" for source, columns in sources for column, other in columns if other == kind]
        if cells and self.random.random() < 0.8:
            return self.random.choice(cells)
        return self.literal(kind)

    def condition(self, schemas, sources, depth):
        word = self.random.choice(["compare", "compare", "and", "or", "not", "exists"])
        if word in ("and", "or") and depth > 0:
            left, right = [self.condition(schemas, sources, depth - 1) for _ in range(2)]
            return f"({left} {word} {right})"
        if word == "not" and depth > 0:
            return f"not ({self.condition(schemas, sources, depth - 1)})"
        if word == "exists" and depth > 0:
            return f"exists ({self.select(schemas, ['number'], sources, depth - 1)})"
        kind = self.random.choice(["number", "number", "text"])
        sign = self.random.choice(["=", "=", "<>", "<", "<=", ">", ">="])
        return f"{self.value(kind, sources, 1)} {sign} {self.value(kind, sources, 1)}"


def do(transaction, text):
    """Does the statement with this text in a transaction, without a database."""
    return transaction.apply(meaning_of(text, transaction.schemas()), text)


def state_of(store):
    """All that a store says of itself."""
    names = store.table_names()
    tables = [(name, store.text_of(name), store.rules_of(name)) for name in names]
    schemas, relations = store.schemas(), store.relations()
    return (store.known, tables, schemas, list(schemas), relations, list(relations))


def outcome(function, *arguments):
    """What the function returns, or the name and the fields of the error that it raises."""
    try:
        return function(*arguments)
    except DatabaseError as error:
        return (error.__class__.__name__, vars(error))
