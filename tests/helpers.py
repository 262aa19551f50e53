"""What several tests share: sets kept one by one, and random spans, regions and rectangles."""

import copy

from pastamended.regions import region_of

FAR = 10 ** 35


def integers_of(spans):
    """The set of the integers of some spans, or of any pairs."""
    return {n for a, b in spans for n in range(a, b)}


def points_of(rectangles):
    """The set of the points of some rectangles."""
    return {(m, n) for a, b, j, k in rectangles for m in range(a, b) for n in range(j, k)}


def region_points(region):
    """The set of the points of a region, read strip by strip."""
    return {(m, n) for j, k, spans in region for n in range(j, k) for m in integers_of(spans)}


def random_pairs(random, count, most=12):
    return [(random.randrange(most), random.randrange(most)) for _ in range(count)]


def random_rectangles(random, count, most=8):
    return [random_pair(random, most) + random_pair(random, most) for _ in range(count)]


def random_pair(random, most):
    return (random.randrange(most), random.randrange(most))


class Unchanged:
    """Calls a function and fails if the call modified one of its arguments."""

    def __init__(self, case):
        self.case = case

    def __call__(self, function, *arguments):
        before = copy.deepcopy(arguments)
        result = function(*arguments)
        self.case.assertEqual(before, arguments, f"{function.__name__} modified an argument")
        return result


# The grammar of the document: [ ] a part that may be missing, { } any number of times, | a choice, all else is meant.
GRAMMAR = """
statement: table NAME ( column {, column} ) {rule} | insert NAME row {, row} span
  | update NAME set NAME = e {, NAME = e} [where e] span | delete NAME [where e] span
  | question [span] [known NUMBER [to NUMBER]]
column: NAME number | NAME text
rule: key ( names ) | refers ( names ) to NAME | require e | most NUMBER | whole
names: NAME {, NAME}
row: ( e {, e} )
span: from NUMBER [to NUMBER] | at NUMBER | always
question: select {union select | except select | intersect select}
select: SELECT item {, item} from source {, source} [where e] [group column_name {, column_name}] [having e]
item: e [as NAME]
source: NAME [as NAME]
column_name: NAME | NAME . NAME
e: both {or both}
both: test {and test}
test: not test | exists ( question ) | amount [compare amount]
compare: = | <> | < | <= | > | >=
amount: term {+ term | - term}
term: factor {* factor | div factor | mod factor}
factor: - factor | NUMBER | TEXT | column_name | ( e ) | count | sum ( e ) | least ( e ) | greatest ( e )
"""


def grammar_rules():
    """Each rule as a list of choices; a choice is a list of words and of pairs of "[" or "{" and a list of choices."""
    rules = {}
    lines = GRAMMAR.replace("\n  |", " |").strip().split("\n")
    for line in lines:
        name, _, right = line.partition(": ")
        for sign in "[]{}|":
            right = right.replace(sign, f" {sign} ")
        rules[name] = _choices_of(right.split())
    return rules


def _choices_of(signs):
    """Takes the signs apart up to the bracket that closes them; removes what it has read from the list."""
    choices = [[]]
    while signs and signs[0] not in ("]", "}"):
        sign = signs.pop(0)
        if sign in ("[", "{"):
            choices[-1].append((sign, _choices_of(signs)))
            signs.pop(0)
        elif sign == "|":
            choices.append([])
        else:
            choices[-1].append(sign)
    return choices


RULES = grammar_rules()


class Recognizer:
    """Finds by the grammar alone, trying every way, how far a row of words can be the beginning of a statement."""

    def __init__(self, row):
        self.row = row
        self.furthest = 0
        self.known = {}

    def fault(self):
        """The index of the first word with which no statement goes on; None if the words are a statement."""
        ends = self.ends_of_rule("statement", 0)
        if len(self.row) in ends:
            return None
        return max([self.furthest, *ends])

    def ends_of_rule(self, name, at):
        if (name, at) not in self.known:
            self.known[(name, at)] = self.ends_of_choices(RULES[name], {at})
        return self.known[(name, at)]

    def ends_of_choices(self, choices, starts):
        found = set()
        for choice in choices:
            ends = starts
            for part in choice:
                ends = self.ends_of_part(part, ends)
            found |= ends
        return found

    def ends_of_part(self, part, starts):
        if isinstance(part, tuple):
            return self.ends_of_bracket(part, starts)
        if part in RULES:
            return {end for at in starts for end in self.ends_of_rule(part, at)}
        self.furthest = max([self.furthest, *starts])
        return {at + 1 for at in starts if at < len(self.row) and self.fits(part, self.row[at])}

    def ends_of_bracket(self, part, starts):
        bracket, choices = part
        found = set(starts)
        new = self.ends_of_choices(choices, starts)
        while bracket == "{" and not new <= found:
            found |= new
            new = self.ends_of_choices(choices, new)
        return found | new

    def fits(self, part, word):
        if part in ("NAME", "NUMBER", "TEXT"):
            return word[0] == part.lower()
        return word[0] in ("keyword", "sign") and word[1] == part.lower()


class Place:
    """Stands in a tree for the place of a word, by the word's index."""

    def __init__(self, index):
        self.index = index


def with_places(tree, place_of):
    """The tree with place_of(index) in the place of each Place."""
    if isinstance(tree, Place):
        return place_of(tree.index)
    if isinstance(tree, list):
        return [with_places(part, place_of) for part in tree]
    if isinstance(tree, tuple):
        return tuple([with_places(part, place_of) for part in tree])
    return tree


BINARY = {
    "or": (0, "or", 0, 1), "and": (1, "and", 1, 2),
    "eq": (2, "=", 3, 3), "ne": (2, "<>", 3, 3), "lt": (2, "<", 3, 3), "le": (2, "<=", 3, 3),
    "gt": (2, ">", 3, 3), "ge": (2, ">=", 3, 3),
    "add": (3, "+", 3, 4), "sub": (3, "-", 3, 4),
    "mul": (4, "*", 4, 5), "div": (4, "div", 4, 5), "mod": (4, "mod", 4, 5),
}
KEYWORDS = """
    always and as at count delete div except exists from group greatest having insert intersect key known least mod
    most not number or refers require select set sum table text to union update whole where
""".split()
NAMES = ["a", "b", "c", "t", "pay", "staff", "x_1", "froms", "to_", "a2345678901234567890"[:20], "z"]
TEXTS = ['""', '"a"', '"from t"', '"( , ) <="', '"' + "x" * 40 + '"', '"12"']


class Maker:
    """Makes random statements: the words, and the tree with a Place for each place."""

    def __init__(self, random):
        self.random = random
        self.row = []

    def put(self, word):
        self.row.append(word)
        return Place(len(self.row) - 1)

    def name(self):
        word = self.random.choice(NAMES)
        return word, self.put(word)

    def number(self):
        n = self.random.choice([0, 1, 2, 7, 12, 999999, 1000000, 10 ** 18, self.random.randrange(10 ** 18)])
        return n, self.put("0" * self.random.choice([0, 0, 0, 1, 11]) + str(n))

    def many(self, make, most=3):
        made = [make()]
        while len(made) < most and self.random.random() < 0.4:
            self.put(",")
            made.append(make())
        return made

    def maybe(self, keyword, make):
        if self.random.random() < 0.5:
            return None
        self.put(keyword)
        return make()

    def statement(self):
        word = self.random.choice(["table", "insert", "update", "delete", "ask", "ask"])
        if word == "ask":
            return self.ask()
        place = self.put(word)
        head = (word, place) + self.name()
        if word == "table":
            return head + self.table()
        if word == "insert":
            return head + (self.many(self.row_of_values), self.span())
        if word == "update":
            self.put("set")
            head = head + (self.many(self.set_of_column),)
        return head + (self.maybe("where", self.e), self.span())

    def table(self):
        self.put("(")
        columns = self.many(self.column)
        self.put(")")
        rules = []
        while self.random.random() < 0.6 and len(rules) < 4:
            rules.append(self.rule())
        return (columns, rules)

    def column(self):
        pair = self.name()
        kind = self.random.choice(["number", "text"])
        self.put(kind)
        return pair + (kind,)

    def rule(self):
        word = self.random.choice(["key", "refers", "require", "most", "whole"])
        place = self.put(word)
        if word == "require":
            return (word, place, self.e())
        if word == "most":
            return (word, place) + self.number()
        if word == "whole":
            return (word, place)
        self.put("(")
        names = self.many(self.name)
        self.put(")")
        if word == "key":
            return (word, place, names)
        self.put("to")
        return (word, place, names) + self.name()

    def row_of_values(self):
        place = self.put("(")
        values = self.many(self.e)
        self.put(")")
        return (place, values)

    def set_of_column(self):
        pair = self.name()
        self.put("=")
        return pair + (self.e(),)

    def span(self):
        word = self.random.choice(["always", "at", "from", "to"])
        if word == "always":
            return (self.put("always"), 0, 10 ** 6)
        place = self.put("at" if word == "at" else "from")
        begin, _ = self.number()
        if word == "at":
            return (place, begin, begin + 1)
        return (place, begin, self.to(10 ** 6, word == "to"))

    def to(self, default, wanted):
        if not wanted:
            return default
        self.put("to")
        return self.number()[0]

    def ask(self):
        start = Place(len(self.row))
        question = self.question(2)
        span = self.span() if self.random.random() < 0.4 else None
        known = None
        if self.random.random() < 0.4:
            place = self.put("known")
            begin, _ = self.number()
            known = (place, begin, self.to(begin + 1, self.random.random() < 0.5))
        return ("ask", start, question, span, known)

    def question(self, depth):
        tree = self.select(depth)
        while self.random.random() < 0.2:
            word = self.random.choice(["union", "except", "intersect"])
            self.put(word)
            tree = (word, tree[1], tree, self.select(depth))
        return tree

    def select(self, depth):
        place = self.put("select")
        items = self.many(lambda: self.item(depth))
        self.put("from")
        sources = self.many(self.source)
        where = self.maybe("where", lambda: self.e(0, depth))
        group = self.maybe("group", lambda: self.many(self.column_name))
        having = self.maybe("having", lambda: self.e(0, depth))
        return ("select", place, items, sources, where, group, having)

    def item(self, depth):
        return (self.e(0, depth), self.maybe("as", lambda: self.name()[0]) or "")

    def source(self):
        pair = self.name()
        named = self.maybe("as", self.name)
        return pair + (named or pair)

    def column_name(self):
        name, place = self.name()
        if self.random.random() < 0.3:
            self.put(".")
            return ("name", place, name, self.name()[0])
        return ("name", place, "", name)

    def e(self, line=0, depth=3):
        if depth <= 0:
            return self.leaf()
        word = self.random.choice(["leaf", "leaf", "neg", "not", "exists", "gather"] + list(BINARY))
        own = BINARY[word][0] if word in BINARY else 2 if word in ("not", "exists") else 5
        if own < line or self.random.random() < 0.1:
            self.put("(")
            tree = self.operation(word, depth - 1)
            self.put(")")
            return tree
        return self.operation(word, depth - 1)

    def operation(self, word, depth):
        if word in BINARY:
            _, sign, line, other_line = BINARY[word]
            left = self.e(line, depth)
            self.put(sign)
            return (word, left[1], left, self.e(other_line, depth))
        if word == "neg":
            return (word, self.put("-"), self.e(5, depth))
        if word == "not":
            return (word, self.put("not"), self.e(2, depth))
        if word in ("exists", "gather"):
            word = "exists" if word == "exists" else self.random.choice(["sum", "least", "greatest"])
            place = self.put(word)
            self.put("(")
            inner = self.question(depth - 1) if word == "exists" else self.e(0, depth)
            self.put(")")
            return (word, place, inner)
        return self.leaf()

    def leaf(self):
        word = self.random.choice(["number", "text", "name", "name", "count"])
        if word == "number":
            n, place = self.number()
            return (word, place, n)
        if word == "text":
            text = self.random.choice(TEXTS)
            return (word, self.put(text), text[1:-1])
        if word == "name":
            return self.column_name()
        return (word, self.put("count"))


def joined(row, random):
    """A text of the words with random gaps, and the places of the words in it."""
    text, places = random.choice(["", " ", "\n"]), []
    for at, word in enumerate(row):
        places.append(len(text))
        text += word
        if at + 1 < len(row):
            gaps = [" ", " ", "\n", "  ", " \n "]
            text += random.choice(gaps + [""] * 5 if may_touch(word, row[at + 1]) else gaps)
    return text + random.choice(["", " ", "\n"]), places


def may_touch(word, other):
    """Whether two words may stand side by side without a space."""
    if word in ("<", ">", "<>", "<=") or other in ("<", ">", "=", "<>", "<=", ">="):
        return not (word in ("<", ">") and other[0] in "=>")
    letters = "abcdefghijklmnopqrstuvwxyz_"
    if word[0] in letters:
        return other[0] not in letters + "0123456789"
    if word[0].isdigit():
        return not other[0].isdigit()
    return True


def random_statement(random, most=150):
    """The words and the tree of a random statement of not too many words."""
    while True:
        maker = Maker(random)
        tree = maker.statement()
        if len(maker.row) <= most:
            return maker.row, tree


def number(n):
    return ("number", n)


def cell(source, column, up=0):
    return ("cell", up, source, column)


def select(items, tables, where=None, group=None, having=None):
    return ("select", items, tables, where, group, having)


class MeaningMaker:
    """Makes random meanings; a scope is a list of the table names of each level, the innermost last.

    The kinds are a dict from table names to lists of their columns' kinds.
    """

    def __init__(self, random, kinds):
        self.random = random
        self.kinds_of = kinds
        # The table without rows is taken less often than others, because most questions over it have no answer.
        self.names = sorted(kinds) + [name for name in sorted(kinds) if name != "none"] * 3

    def value(self, kind, scope, depth, gathers=None):
        """An expression; gathers is None or, where only gatherings and these cells may stand, a list of cells."""
        word = self.random.choice(["literal", "cell", "cell", "operator", "gather"])
        if word == "gather" and gathers is not None and depth > 0:
            return self.gathering(kind, scope, depth - 1)
        if word == "operator" and kind == "number" and depth > 0:
            if self.random.random() < 0.2:
                return ("neg", self.value(kind, scope, depth - 1, gathers))
            op = self.random.choice(["add", "sub", "mul", "div", "mod"])
            return (op, self.value(kind, scope, depth - 1, gathers), self.value(kind, scope, depth - 1, gathers))
        cells = self.cells(kind, scope) if gathers is None else self.allowed(kind, scope, gathers)
        if word != "literal" and cells:
            return self.random.choice(cells)
        if kind == "text":
            return ("text", self.random.choice(["a", "b", "c"]))
        return ("number", self.random.choice([0, 1, 2, 3, -1, 10 ** 18]))

    def gathering(self, kind, scope, depth):
        if kind == "number" and self.random.random() < 0.4:
            return self.random.choice([("count",), ("sum", self.value(kind, scope, depth))])
        return (self.random.choice(["least", "greatest"]), self.value(kind, scope, depth))

    def cells(self, kind, scope):
        return [("cell", up, source, column) for up in range(len(scope))
                for source, name in enumerate(scope[-1 - up])
                for column, other in enumerate(self.kinds_of[name]) if other == kind]

    def allowed(self, kind, scope, gathers):
        return [one for one in self.cells(kind, scope) if one[1] > 0 or one in gathers]

    def condition(self, scope, depth, gathers=None):
        word = self.random.choice(["compare", "compare", "and", "or", "not", "exists", "truth"])
        if word == "truth" and self.random.random() < 0.5:
            return ("truth", self.random.choice([True, False]))
        if word == "not" and depth > 0:
            return ("not", self.condition(scope, depth - 1, gathers))
        if word in ("and", "or") and depth > 0:
            return (word, self.condition(scope, depth - 1, gathers), self.condition(scope, depth - 1, gathers))
        if word == "exists" and gathers is None and depth > 0:
            return ("exists", self.question(self.kinds(), scope, depth - 1))
        kind = self.random.choice(["number", "text"])
        op = self.random.choice(["eq", "eq", "ne", "lt", "le", "gt", "ge"])
        return (op, self.value(kind, scope, depth - 1, gathers), self.value(kind, scope, depth - 1, gathers))

    def kinds(self):
        return [self.random.choice(["number", "text"]) for _ in range(self.random.randrange(1, 3))]

    def question(self, kinds, scope, depth):
        if self.random.random() < 0.25 and depth > 0:
            word = self.random.choice(["union", "except", "intersect"])
            return (word, self.question(kinds, scope, depth - 1), self.select(kinds, scope, depth - 1))
        return self.select(kinds, scope, depth)

    def select(self, kinds, scope, depth):
        names = [self.random.choice(self.names) for _ in range(self.random.randrange(1, 3))]
        inner = scope + [names]
        where = self.random.choice([None, self.condition(inner, depth)])
        group = having = None
        if self.random.random() < 0.5:
            own = self.cells("number", [names]) + self.cells("text", [names])
            group = self.random.sample(own, self.random.randrange(min(3, len(own) + 1)))
            having = self.random.choice([None, self.condition(inner, depth, group)])
        return ("select", [self.value(kind, inner, depth, group) for kind in kinds], names, where, group, having)


def random_region(random, most=8, count=3):
    """A region of some random rectangles, not often empty."""
    rectangles = []
    for _ in range(random.choice([0] + list(range(1, count + 1)) * 4)):
        a, b, j, k = sorted(random.sample(range(most + 1), 2)) + sorted(random.sample(range(most + 1), 2))
        rectangles.append((a, b, j, k))
    return region_of(rectangles)


def random_relation(random, rows, most=8):
    """A relation of some of the rows, with random regions."""
    pairs = [(row, random_region(random, most)) for row in rows if random.random() < 0.8]
    return [(row, region) for row, region in sorted(pairs) if region]


def cuts_of(tables, m, k):
    """The plain tables of temporal tables at a point."""
    return {name: [row for row, region in tables[name] if (m, k) in region_points(region)] for name in tables}
