"""Answers worked out by plans."""

from pastamended.choices import answer_of
from pastamended.ready import ready_question


def planned_answer(question, tables, region, orders):
    """The answer of a question within a region, by the orders with these numbers, or by the chosen ones."""
    return answer_of(ready_question(question, tables, orders), region, [])
