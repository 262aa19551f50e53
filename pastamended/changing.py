"""What statements make of the pending rows of a transaction, over spans of moments."""

from pastamended.answers import truth
from pastamended.plain_changes import updated_row
from pastamended.regions import at_known
from pastamended.relations import within
from pastamended.spans import spans_count, spans_minus, spans_of, spans_unite


def change(statement, tables, known):
    """The new pending rows of the statement's table with their spans, and how many rows at moments have changed."""
    pending = {row: at_known(region, known + 1) for row, region in tables[statement[1]]}
    if statement[0] == "insert":
        changed = _united(pending, [(row, [statement[3]]) for row in statement[2]])
    else:
        changed = _changed(statement, pending, tables, known)
    rows = sorted(set(list(pending) + list(changed)))
    count = sum([_difference(pending.get(row, []), changed.get(row, [])) for row in rows])
    return ([(row, changed[row]) for row in rows if changed[row]], count)


def _changed(statement, pending, tables, known):
    """The pending rows after an update or delete, as a dict from rows to spans, of which some may be empty."""
    where, span = statement[-2:]
    window = [(known + 1, known + 2, [span])]
    now = {name: within(tables[name], window) for name in tables}
    meant = {}
    for row, region in now[statement[1]]:
        found = region if where is None else truth(where, [[row]], region, now)
        meant[row] = at_known(found, known + 1)
    left = {row: spans_minus(pending[row], meant.get(row, [])) for row in pending}
    if statement[0] == "delete":
        return left
    return _united(left, [(updated_row(row, statement[2], {}), meant[row]) for row in meant])


def _united(pending, pairs):
    """The pending rows with some more, which are pairs of a row and spans."""
    added = {}
    for row, spans in pairs:
        added.setdefault(row, []).extend(spans)
    united = {row: pending[row] for row in pending}
    for row in added:
        united[row] = spans_unite(pending.get(row, []), spans_of(added[row]))
    return united


def _difference(first, second):
    """How many integers are in one of two spans, but not in both."""
    return spans_count(spans_minus(first, second)) + spans_count(spans_minus(second, first))
