"""Numbers and texts, and the arithmetic of numbers, which never fails."""

MOST = 10 ** 18
END = 1000000
OPEN = 1000000


def wrap(n):
    """The number that stands for an integer of any size."""
    return (n + MOST) % (2 * MOST + 1) - MOST


def quotient(x, y):
    """x by y, rounded down and wrapped; 0 if y is 0."""
    if y == 0:
        return 0
    return wrap(x // y)


def remainder(x, y):
    """What is left of x divided by y: 0, or with the sign of y; x if y is 0."""
    if y == 0:
        return x
    return x % y


def kind_of(value):
    """The kind of a value: "number" or "text"."""
    return "text" if isinstance(value, str) else "number"


def write_value(value):
    """The value as statements and images write it."""
    return f'"{value}"' if kind_of(value) == "text" else str(value)
