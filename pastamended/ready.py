"""Questions made ready to be answered over some tables.

A ready question is ("union", left, right) and the like, or ("select", select, ahead, steps) with the select as it was.
Ahead are the parts of its where that name no source. A step is (source, relation, index, expressions, parts): it takes
the rows of the relation, or, where there is an index, those that it has for the values of the expressions; the parts
are asked as soon as the row is taken. Parts are always a pair of lists: those without an exists and those with one.
The conditions in the latter are ready, too: the question of each of their exists is a ready one.
"""

from pastamended.indexes import Index
from pastamended.orders import choose_order, make_plan, order_number
from pastamended.parts import has_exists, sources_of


def ready_question(question, tables, orders):
    """The ready question whose selects take orders with these numbers, or, if there are none, their chosen orders."""
    # The numbers are turned, so that not all selects take the order with the same one.
    turned = orders[1:] + orders[:1]
    if question[0] != "select":
        word, left, right = question
        return (word, ready_question(left, tables, orders), ready_question(right, tables, turned))
    plan = make_plan(question, _order_of(question, tables, orders))
    ahead = [part for part in plan[0][2] if not sources_of(part)]
    steps = []
    for source, probes, filters in plan:
        relation = tables[question[2][source]]
        index = Index(relation, [column for column, _ in probes]) if probes else None
        asked = [part for part in filters if sources_of(part)]
        steps.append((source, relation, index, [e for _, e in probes], _ready_parts(asked, tables, turned)))
    return ("select", question, _ready_parts(ahead, tables, turned), steps)


def ready_condition(e, tables, orders):
    """The condition with a ready question in each of its exists."""
    if e[0] == "exists":
        return ("exists", ready_question(e[1], tables, orders))
    if e[0] == "not":
        return ("not", ready_condition(e[1], tables, orders))
    if e[0] in ("and", "or"):
        return (e[0], ready_condition(e[1], tables, orders), ready_condition(e[2], tables, orders))
    return e


def _order_of(select, tables, orders):
    """The order in which a select takes its sources."""
    if orders:
        return order_number(orders[0], len(select[2]))
    return choose_order(select, {name: len(tables[name]) for name in select[2]})


def _ready_parts(conditions, tables, orders):
    plain = [e for e in conditions if not has_exists(e)]
    return (plain, [ready_condition(e, tables, orders) for e in conditions if has_exists(e)])
