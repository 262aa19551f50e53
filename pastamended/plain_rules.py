"""Whether rules hold at one moment."""

from pastamended.plain_answers import value_of


def rule_holds(rule, rows, tables, keys):
    """Whether the rule of a table with these rows holds."""
    word = rule[0]
    if word == "key":
        return len(set(_columns_of(rows, rule[1]))) == len(rows)
    if word == "refers":
        others = _columns_of(tables[rule[2]], keys[rule[2]])
        return len(set(_columns_of(rows, rule[1])) - set(others)) == 0
    if word == "require":
        return all([value_of(rule[1], [[row]], tables) for row in rows])
    if word == "most":
        return len(rows) <= rule[1]
    # How a table is whole shows only over several moments.
    return True


def _columns_of(rows, columns):
    """The tuples of the values of some columns, row by row."""
    return [tuple([row[column] for column in columns]) for row in rows]
