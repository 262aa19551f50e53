"""What statements make of the pending rows of a transaction, over spans of moments."""

from pastamended.choices import truth_of
from pastamended.parts import has_exists
from pastamended.plain_changes import updated_row
from pastamended.ready import ready_condition
from pastamended.regions import at_known, joined
from pastamended.relations import within
from pastamended.spans import spans_count, spans_meet, spans_minus, spans_of, spans_unite
from pastamended.values import OPEN


def change(statement, tables, known):
    """The new pending rows of the statement's table with their spans, and how many rows at moments have changed."""
    pending = {row: at_known(region, known + 1) for row, region in tables[statement[1]]}
    if statement[0] == "insert":
        changed = _united(pending, [(row, [statement[3]]) for row in statement[2]])
    else:
        changed = _changed(statement, pending, tables, known)
    rows = sorted(set(list(pending) + list(changed)))
    count = sum([_count_in_one(pending.get(row, []), changed.get(row, [])) for row in rows])
    return ([(row, changed[row]) for row in rows if changed[row]], count)


def with_pending(relation, pairs, known):
    """The relation with these pairs of a row and spans, without empty spans, at all known numbers behind this one."""
    pending = {row: spans for row, spans in pairs}
    regions = {row: region for row, region in relation}
    found = []
    for row in sorted(set(list(pending) + list(regions))):
        region = regions.get(row, [])
        spans = pending.get(row, [])
        if spans != at_known(region, known + 1):
            past = [(j, min(k, known + 1), own) for j, k, own in region if j <= known]
            region = joined(past + [(known + 1, OPEN, list(spans))])
        if region:
            found.append((row, region))
    return found


def _changed(statement, pending, tables, known):
    """The pending rows after an update or delete, as a dict from rows to spans, of which some may be empty."""
    where, span = statement[-2:]
    condition = _ready_where(where, tables, [(known + 1, known + 2, [span])])
    meant = {}
    for row in pending:
        region = joined([(known + 1, known + 2, spans_meet(pending[row], [span]))])
        found = truth_of(condition, [[row]], region)
        if found:
            meant[row] = at_known(found, known + 1)
    left = {row: spans_minus(pending[row], meant.get(row, [])) for row in pending}
    if statement[0] == "delete":
        return left
    return _united(left, [(updated_row(row, statement[2], {}), meant[row]) for row in meant])


def _ready_where(where, tables, window):
    """The ready condition of a where over the tables within the window; a missing one is always true."""
    if where is None:
        return ("truth", True)
    # The tables are asked by an exists alone.
    here = {name: within(tables[name], window) for name in tables} if has_exists(where) else {}
    return ready_condition(where, here, [])


def _united(pending, pairs):
    """The pending rows with some more, which are pairs of a row and spans."""
    added = {}
    for row, spans in pairs:
        added.setdefault(row, []).extend(spans)
    united = {row: pending[row] for row in pending}
    for row in added:
        united[row] = spans_unite(pending.get(row, []), spans_of(added[row]))
    return united


def _count_in_one(first, second):
    """How many integers are in one of two spans, but not in both."""
    return spans_count(spans_minus(first, second)) + spans_count(spans_minus(second, first))
