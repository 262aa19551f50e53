"""What names mean among the sources of selects.

A source is a pair of its name and its columns, which are pairs of a name and a kind; the columns of a source of an
unknown table are None. A level is a tuple of the sources of one select.
What a name means is a tuple (word, source, column, kind). The word is "column" if it means that column of that source,
"nothing" if it has to be looked up further out, "any" if it may mean a column of an unknown table, otherwise the word
of a mistake.
"""


def meaning_within(levels, source, column):
    """The word, the cell and the kind of a name, looked up from the last level outward."""
    for up, level in enumerate(reversed(levels)):
        word, found, index, kind = meaning_at(level, source, column)
        if word != "nothing":
            return (word, ("cell", up, found, index), kind)
    return ("unknown name", ("cell", 0, 0, 0), "unknown")


def meaning_at(level, source, column):
    """What a name means at one level; the source is the empty string if none is written."""
    if source == "":
        return _meaning_without_source(level, column)
    for at, (name, columns) in enumerate(level):
        if name == source:
            if columns is None:
                return _without_column("any")
            index = index_of_column(columns, column)
            return _without_column("unknown name") if index is None else ("column", at, index, columns[index][1])
    return _without_column("nothing")


def index_of_column(columns, name):
    """The index of the first column with this name, or None."""
    for at, (column, _) in enumerate(columns):
        if column == name:
            return at
    return None


def _meaning_without_source(level, column):
    found = []
    for at, (_, columns) in enumerate(level):
        index = None if columns is None else index_of_column(columns, column)
        if index is not None:
            found.append(("column", at, index, columns[index][1]))
    if len(found) == 1:
        return found[0]
    if found:
        return _without_column("ambiguous name")
    return _without_column("any" if None in [columns for _, columns in level] else "nothing")


def _without_column(word):
    return (word, 0, 0, "unknown")
