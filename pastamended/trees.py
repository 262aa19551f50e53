"""Trees without their places."""


def bare(tree):
    """The same tree with 0 in the place of each place."""
    parts = []
    for at, part in enumerate(tree):
        if isinstance(part, (tuple, list)):
            parts.append(bare(part))
        elif _is_place(tree, at):
            parts.append(0)
        else:
            parts.append(part)
    return parts if isinstance(tree, list) else tuple(parts)


def _is_place(tree, at):
    """Whether the part at this index of a tuple of a tree is a place.

    Places are the integers that stand first (in spans, known parts and rows), those behind a name or the word of a
    tree, and that of the number of a `most` rule. All other integers are numbers that the text names.
    """
    if not isinstance(tree[at], int):
        return False
    return at == 0 or isinstance(tree[at - 1], str) or (tree[0] == "most" and at == 3)
