"""Rewriting questions into smaller ones with the same answers."""

from pastamended.parts import expressions_of
from pastamended.plain_answers import value_of

# For each comparison the one that is true where it is false.
OPPOSITES = {"eq": "ne", "ne": "eq", "lt": "ge", "ge": "lt", "gt": "le", "le": "gt"}
TRUE = ("truth", True)
FALSE = ("truth", False)


def rewrite(question):
    """A question with the same plain answers, in which nothing can be reduced."""
    word = question[0]
    if word == "select":
        _, items, names, where, group, having = question
        return (word, [_reduced(e) for e in items], names, _reduced_clause(where), group, _reduced_clause(having))
    left = rewrite(question[1])
    right = rewrite(question[2])
    return left if word != "except" and left == right else (word, left, right)


def size_of(question):
    """How many selects, unions, excepts, intersects and expressions stand in a question."""
    if question[0] == "select":
        return 1 + sum([_size_of_expression(e) for e in expressions_of(question)])
    return 1 + size_of(question[1]) + size_of(question[2])


def _size_of_expression(e):
    if e[0] == "exists":
        return 1 + size_of(e[1])
    count = 1
    for operand in e[1:]:
        if isinstance(operand, tuple):
            count += _size_of_expression(operand)
    return count


def _reduced_clause(condition):
    """The condition of a where or having; None if it is always true."""
    if condition is None:
        return None
    found = _reduced(condition)
    return None if found == TRUE else found


def _reduced(e):
    """The expression with reduced operands, and itself reduced."""
    word = e[0]
    if word in ("number", "text", "truth", "cell"):
        return e
    if word == "exists":
        question = rewrite(e[1])
        return FALSE if question[0] == "select" and question[3] == FALSE else (word, question)
    parts = [word]
    for operand in e[1:]:
        parts.append(_reduced(operand))
    found = tuple(parts)
    if word == "not":
        return _reduced_not(found)
    if word in ("and", "or"):
        return _reduced_pair(found)
    # What is gathered depends on the choices, also where it is gathered from numbers and texts alone.
    return found if word in ("count", "sum", "least", "greatest") else _reduced_operation(found)


def _reduced_not(e):
    operand = e[1]
    if operand[0] == "not":
        return operand[1]
    if operand[0] == "truth":
        return ("truth", not operand[1])
    if operand[0] in OPPOSITES:
        return (OPPOSITES[operand[0]], operand[1], operand[2])
    return e


def _reduced_pair(e):
    """An `and` or `or`, of which a truth decides, or leaves the other operand."""
    word, left, right = e
    decides = TRUE if word == "or" else FALSE
    if decides in (left, right):
        return decides
    if left[0] == "truth":
        return right
    return left if right[0] == "truth" else e


def _reduced_operation(e):
    """An arithmetic operator, a negation or a comparison."""
    if all([operand[0] in ("number", "text") for operand in e[1:]]):
        value = value_of(e, [], {})
        return ("truth" if e[0] in OPPOSITES else "number", value)
    if e[0] in OPPOSITES and e[1] == e[2]:
        return ("truth", e[0] in ("eq", "le", "ge"))
    return e
