"""Answers over both times."""

from pastamended.choices import answer_of, truth_of
from pastamended.ready import ready_condition, ready_question

# The order with this number takes the sources as they stand.
AS_THEY_STAND = 0


def truth(condition, levels, region, tables):
    """The region of those points of a region at which a condition without gatherings is true for the levels."""
    return truth_of(ready_condition(condition, tables, [AS_THEY_STAND]), list(levels), region)


def answer(question, tables, region, levels=()):
    """The answer of a question within a region for the given levels."""
    return answer_of(ready_question(question, tables, [AS_THEY_STAND]), region, list(levels))
