"""Images: stores as texts."""

from pastamended.checking import check_statement
from pastamended.reading import read_statement
from pastamended.regions import rectangles_of, region_of
from pastamended.relations import relation_of
from pastamended.store import Store
from pastamended.tables import Tables
from pastamended.values import write_value
from pastamended.words import words


def image_text(store):
    """The text of the image of a store: a line for each table, and then one for each row and rectangle."""
    names = store.table_names()
    relations = store.relations()
    lines = [store.text_of(name) for name in names]
    for name in names:
        for row, region in relations[name]:
            for rectangle in rectangles_of(region):
                lines.append(_fact(name, row, rectangle))
    return "\n".join(lines)


def store_of(text, known):
    """The store whose image has this text and this known number."""
    lines = text.split("\n") if text else []
    pairs = {}
    for line in lines:
        if line.startswith("fact "):
            name, row, rectangle = _read_fact(line)
            pairs.setdefault(name, []).append((row, region_of([rectangle])))
    tables = Tables()
    for line in lines:
        if not line.startswith("fact "):
            _, name, columns, rules = check_statement(read_statement(line), tables.schemas())
            tables.make(name, columns, rules, line, relation_of(pairs.get(name, [])))
    store = Store()
    store.become(tables, known)
    return store


def _fact(name, row, rectangle):
    numbers = " ".join([str(n) for n in rectangle])
    values = ", ".join([write_value(value) for value in row])
    return f"fact {name} {numbers} ({values})"


def _read_fact(line):
    """The name, the row and the rectangle of a line; its words are like those of a statement."""
    found = words(line)
    name = found[1][1]
    rectangle = tuple([value for _, value, _ in found[2:6]])
    row = []
    sign = 1
    for sort, value, _ in found[7:-1]:
        if sort == "sign":
            sign = -1 if value == "-" else 1
        else:
            row.append(value * sign if sort == "number" else value)
    return (name, tuple(row), rectangle)
