"""Reports about what a database said at its known numbers."""

from pastamended.checking import check_statement
from pastamended.corrections import corrections
from pastamended.plans import planned_answer
from pastamended.reading import read_statement
from pastamended.regions import rectangles_of, region_of
from pastamended.rewriting import rewrite
from pastamended.values import END


def history(database, table, values):
    """The list of (j, k, a, b, row) of all rectangles of the rows with these values in the columns of the key."""
    _, key = database.store.schemas()[table]
    found = []
    for row, region in database.store.relations()[table]:
        if [row[column] for column in key] == list(values):
            found.extend([(j, k, a, b, row) for a, b, j, k in rectangles_of(region)])
    return sorted(found)


def difference(database, text, j, k):
    """The corrections from j to k of the answer of a question over all moments."""
    store = database.store
    _, question, _, _ = check_statement(read_statement(text), store.schemas())
    region = region_of([(0, END, j, j + 1), (0, END, k, k + 1)])
    return corrections(planned_answer(rewrite(question), store.relations(), region, []), j, k)
