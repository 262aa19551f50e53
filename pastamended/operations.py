"""What the operators with two values as operands give."""

from pastamended.values import quotient, remainder, wrap


def operate(word, x, y):
    """The value of an arithmetic operator, or True or False for a comparison."""
    if word in ("add", "sub", "mul", "div", "mod"):
        return _calculate(word, x, y)
    return _compare(word, x, y)


def _calculate(word, x, y):
    if word == "add":
        return wrap(x + y)
    if word == "sub":
        return wrap(x - y)
    if word == "mul":
        return wrap(x * y)
    if word == "div":
        return quotient(x, y)
    return remainder(x, y)


def _compare(word, x, y):
    if word == "eq":
        return x == y
    if word == "ne":
        return x != y
    if word == "lt":
        return x < y
    if word == "le":
        return x <= y
    if word == "gt":
        return x > y
    return x >= y
