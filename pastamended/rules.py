"""The first moment at which a rule is broken."""

from pastamended.plain_answers import value_of
from pastamended.regions import at_known
from pastamended.spans import spans_minus, spans_of


def first_broken(rules, tables, keys, known):
    """The table, the index of the rule and the moment of the first broken rule at a known number, or None."""
    now = {}
    for name in tables:
        now[name] = [(row, at_known(region, known)) for row, region in tables[name]]
    found = []
    for at, (table, own) in enumerate(rules):
        for index, rule in enumerate(own):
            for moment in _broken(rule, table, now, keys):
                found.append((moment, at, index))
    if not found:
        return None
    moment, at, index = min(found)
    return (rules[at][0], index, moment)


def _broken(rule, table, now, keys):
    """Moments at which a rule is broken, the first one among them; none if it holds at all moments."""
    word = rule[0]
    rows = now[table]
    if word == "key":
        groups = _spans_by_values(rows, rule[1])
        return [moment for spans in groups.values() for moment in _crowded(spans, 1)]
    if word == "refers":
        others = _spans_by_values(now[rule[2]], keys[rule[2]])
        return _firsts([
            spans_minus(spans, spans_of(others.get(_values(row, rule[1]), []))) for row, spans in rows
        ])
    if word == "require":
        return _firsts([spans for row, spans in rows if not value_of(rule[1], [[row]], {})])
    if word == "most":
        return _crowded([span for _, spans in rows for span in spans], rule[1])
    groups = _spans_by_values(rows, keys[table])
    # What comes after a gap in the moments of a key's values is the second of their spans.
    return _firsts([spans_of(spans)[1:] for spans in groups.values()])


def _spans_by_values(rows, columns):
    """For each tuple of values in the columns, the spans of all rows with these values, in one list."""
    groups = {}
    for row, spans in rows:
        groups.setdefault(_values(row, columns), []).extend(spans)
    return groups


def _values(row, columns):
    return tuple([row[column] for column in columns])


def _firsts(some):
    """The first moment of each of some spans that are not empty."""
    return [spans[0][0] for spans in some if spans]


def _crowded(spans, most):
    """The first moment that more than so many of the spans hold, in a list; none if there is no such moment."""
    turns = sorted([(a, 1) for a, _ in spans] + [(b, -1) for _, b in spans])
    count = 0
    for moment, step in turns:
        count += step
        if count > most:
            return [moment]
    return []
