"""Writing statements: the text of a tree."""

from pastamended.values import END, write_value

# The lines of the grammar that an expression may have to be read by, from the loosest to the tightest one.
LINES = ("e", "both", "test", "amount", "term", "factor")

# For each operator with two operands: its word, its own line, and those that read its left and its right operand.
OPERATORS = {
    "or": ("or", "e", "e", "both"),
    "and": ("and", "both", "both", "test"),
    "eq": ("=", "test", "amount", "amount"),
    "ne": ("<>", "test", "amount", "amount"),
    "lt": ("<", "test", "amount", "amount"),
    "le": ("<=", "test", "amount", "amount"),
    "gt": (">", "test", "amount", "amount"),
    "ge": (">=", "test", "amount", "amount"),
    "add": ("+", "amount", "amount", "term"),
    "sub": ("-", "amount", "amount", "term"),
    "mul": ("*", "term", "term", "factor"),
    "div": ("div", "term", "term", "factor"),
    "mod": ("mod", "term", "term", "factor"),
}


def write_statement(tree):
    """The written form of the tree of a statement."""
    word = tree[0]
    if word == "ask":
        return _question(tree[2]) + _span(tree[3]) + _known(tree[4])
    name = tree[2]
    if word == "table":
        columns = ", ".join([f"{column} {kind}" for column, _, kind in tree[4]])
        return f"table {name} ({columns})" + "".join([_rule(rule) for rule in tree[5]])
    if word == "insert":
        rows = ", ".join([f"({_list(row)})" for _, row in tree[4]])
        return f"insert {name} {rows}" + _span(tree[5])
    if word == "update":
        sets = ", ".join([f"{column} = {_expression(e)}" for column, _, e in tree[4]])
        return f"update {name} set {sets}" + _behind("where", tree[5]) + _span(tree[6])
    return f"delete {name}" + _behind("where", tree[4]) + _span(tree[5])


def _rule(rule):
    word = rule[0]
    if word == "key":
        return f" key ({_names(rule[2])})"
    if word == "refers":
        return f" refers ({_names(rule[2])}) to {rule[3]}"
    if word == "require":
        return _behind("require", rule[2])
    if word == "most":
        return f" most {rule[2]}"
    return " whole"


def _names(names):
    return ", ".join([name for name, _ in names])


def _span(span):
    """The span with a space in front, or nothing for None."""
    if span is None:
        return ""
    _, a, b = span
    if (a, b) == (0, END):
        return " always"
    if b == a + 1:
        return f" at {a}"
    if b == END:
        return f" from {a}"
    return f" from {a} to {b}"


def _known(known):
    """The known part with a space in front, or nothing for None."""
    if known is None:
        return ""
    _, a, b = known
    return f" known {a}" if b == a + 1 else f" known {a} to {b}"


def _question(question):
    if question[0] != "select":
        return f"{_question(question[2])} {question[0]} {_question(question[3])}"
    _, _, items, sources, where, group, having = question
    grouped = "" if group is None else f" group {_list(group)}"
    head = ", ".join([_item(e, name) for e, name in items])
    tables = ", ".join([_source(table, name) for table, _, name, _ in sources])
    return f"select {head} from {tables}" + _behind("where", where) + grouped + _behind("having", having)


def _item(e, name):
    text = _expression(e)
    return text if name == "" else f"{text} as {name}"


def _source(table, name):
    return table if name == table else f"{table} as {name}"


def _behind(keyword, e):
    """The keyword and the expression with a space in front, or nothing for None."""
    return "" if e is None else f" {keyword} {_expression(e)}"


def _list(expressions):
    return ", ".join([_expression(e) for e in expressions])


def _expression(e, line="e"):
    """The expression, in parentheses if this line of the grammar does not read it without them."""
    word = e[0]
    own = "factor"
    if word in OPERATORS:
        sign, own, left, right = OPERATORS[word]
        text = f"{_expression(e[2], left)} {sign} {_expression(e[3], right)}"
    elif word == "not":
        own = "test"
        text = "not " + _expression(e[2], "test")
    elif word == "exists":
        own = "test"
        text = f"exists ({_question(e[2])})"
    elif word == "neg":
        text = "- " + _expression(e[2], "factor")
    else:
        text = _factor(e)
    return f"({text})" if LINES.index(own) < LINES.index(line) else text


def _factor(e):
    """An expression that is one factor as it stands."""
    if e[0] == "count":
        return "count"
    if e[0] in ("number", "text"):
        return write_value(e[2])
    if e[0] == "name":
        return e[3] if e[2] == "" else f"{e[2]}.{e[3]}"
    return f"{e[0]} ({_expression(e[2])})"
