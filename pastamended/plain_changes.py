"""What statements make of the rows of one moment."""

from pastamended.plain_answers import value_of, values_of


def plain_change(statement, tables):
    """The plain table of the statement's table after an insert, update or delete."""
    rows = tables[statement[1]]
    if statement[0] == "insert":
        return sorted(set(rows) | set(statement[2]))
    where = statement[2] if statement[0] == "delete" else statement[3]
    meant = [row for row in rows if where is None or value_of(where, [[row]], tables)]
    left = sorted(set(rows) - set(meant))
    if statement[0] == "delete":
        return left
    return sorted(set(left) | set([updated_row(row, statement[2], tables) for row in meant]))


def updated_row(row, sets, tables):
    """The row in which each column of the sets has the value of its expression for the row as it was."""
    values = dict(zip([column for column, _ in sets], values_of([e for _, e in sets], [[row]], tables)))
    return tuple([values.get(column, value) for column, value in enumerate(row)])
