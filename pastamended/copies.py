"""Copies that share no list or dict with what they are made from."""


def copied(value):
    """A copy of a value, of the lists and dicts that lie within it, too."""
    if isinstance(value, list):
        return [copied(part) for part in value]
    if isinstance(value, tuple):
        return tuple([copied(part) for part in value])
    if isinstance(value, dict):
        return {key: copied(value[key]) for key in value}
    return value


def copied_relation(relation):
    """A copy of a relation; its rows hold no lists and need not be copied."""
    return [(row, [(j, k, list(spans)) for j, k, spans in region]) for row, region in relation]
