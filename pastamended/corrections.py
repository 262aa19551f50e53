"""What was corrected between two known numbers, and the statements that make the rows of a table again."""

from pastamended.regions import at_known
from pastamended.spans import spans_minus
from pastamended.values import kind_of
from pastamended.writing import write_statement


def corrections(relation, j, k):
    """What differs between the rows at j and at k: a list of (row, word, spans)."""
    found = []
    for row, region in relation:
        before = at_known(region, j)
        after = at_known(region, k)
        for word, spans in (("came", spans_minus(after, before)), ("went", spans_minus(before, after))):
            if spans:
                found.append((row, word, spans))
    return found


def dump(name, relation, known):
    """The written forms of insert statements for the rows of a table at a known number."""
    return [_insert(name, row, span) for row, region in relation for span in at_known(region, known)]


def _insert(name, row, span):
    a, b = span
    return write_statement(("insert", 0, name, 0, [(0, [_expression(value) for value in row])], (0, a, b)))


def _expression(value):
    """The tree of an expression with this value; a number below 0 is a negation, as no number has a sign."""
    if kind_of(value) == "number" and value < 0:
        return ("neg", 0, ("number", 0, -value))
    return (kind_of(value), 0, value)
