"""What `count`, `sum`, `least` and `greatest` make of the choices of a group."""

from pastamended.values import kind_of, wrap

GATHERINGS = ("count", "sum", "least", "greatest")


def gatherings_of(select):
    """The gatherings in the items and the having of a select, each once."""
    _, items, _, _, _, having = select
    found = []
    for e in items + ([] if having is None else [having]):
        for gathering in _gatherings_in(e):
            if gathering not in found:
                found.append(gathering)
    return found


def gathered_expressions(gatherings):
    """The expressions whose values are gathered; of those of a count only the number matters."""
    return [("number", 1) if gathering[0] == "count" else gathering[1] for gathering in gatherings]


def gathered_values(gatherings, rows):
    """The values of the gatherings over choices, each given by the row of its values of the gathered expressions."""
    return tuple([_gathered(gathering[0], [row[at] for row in rows]) for at, gathering in enumerate(gatherings)])


def with_values(e, gatherings, values):
    """The expression with a value in the place of each of the gatherings."""
    if e[0] in GATHERINGS:
        value = values[gatherings.index(e)]
        return (kind_of(value), value)
    parts = []
    for part in e:
        parts.append(with_values(part, gatherings, values) if isinstance(part, tuple) else part)
    return tuple(parts)


def _gatherings_in(e):
    """The gatherings in an expression; no exists stands beside gatherings, so nothing is a question here."""
    if e[0] in GATHERINGS:
        return [e]
    found = []
    for part in e:
        if isinstance(part, tuple):
            found.extend(_gatherings_in(part))
    return found


def _gathered(word, values):
    if word == "count":
        return len(values)
    if word == "sum":
        return wrap(sum(values))
    return min(values) if word == "least" else max(values)
