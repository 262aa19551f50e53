"""The parts of conditions, and the sources that expressions name."""


def parts(condition):
    """The parts of a condition, which are joined by `and`; None has no parts."""
    if condition is None:
        return []
    if condition[0] == "and":
        return parts(condition[1]) + parts(condition[2])
    return [condition]


def sources_of(e):
    """The ascending indexes of the sources of its own select that an expression names."""
    return sorted(set(_sources_at(e, 0)))


def parts_by_taken(condition, count):
    """The parts that can be asked as soon as n of the sources are taken, not before, for each n from 0 to count."""
    found = [[] for _ in range(count + 1)]
    for part in parts(condition):
        named = sources_of(part)
        found[named[-1] + 1 if named else 0].append(part)
    return found


def has_exists(e):
    """Whether an exists stands in an expression."""
    if e[0] == "exists":
        return True
    for operand in e[1:]:
        if isinstance(operand, tuple) and has_exists(operand):
            return True
    return False


def expressions_of(select):
    """All expressions of a select: items, where, the cells of the group, and having."""
    _, items, _, where, group, having = select
    return items + [e for e in (where, having) if e is not None] + (group or [])


def _sources_at(e, up):
    """The sources of the cells that mean the level `up` steps out, as often as they stand there."""
    if e[0] == "cell":
        return [e[2]] if e[1] == up else []
    if e[0] == "exists":
        return _sources_in_question(e[1], up + 1)
    found = []
    for operand in e[1:]:
        if isinstance(operand, tuple):
            found.extend(_sources_at(operand, up))
    return found


def _sources_in_question(question, up):
    if question[0] != "select":
        return _sources_in_question(question[1], up) + _sources_in_question(question[2], up)
    return [source for e in expressions_of(question) for source in _sources_at(e, up)]
