"""The words of a statement's text."""

from pastamended.values import MOST

KEYWORDS = (
    "always", "and", "as", "at", "count", "delete", "div", "except", "exists", "from", "group", "greatest", "having",
    "insert", "intersect", "key", "known", "least", "mod", "most", "not", "number", "or", "refers", "require",
    "select", "set", "sum", "table", "text", "to", "union", "update", "whole", "where",
)
LETTERS = "abcdefghijklmnopqrstuvwxyz"
DIGITS = "0123456789"
SIGNS = ("<>", "<=", ">=", "(", ")", ",", ".", "+", "-", "*", "=", "<", ">")
MOST_LETTERS = 20
MOST_DIGITS = 30
MOST_CHARACTERS = 40


def words(text):
    """The sort, value and place of each word, up to and with the first bad one."""
    found = []
    at = 0
    while at < len(text):
        if text[at] in " \n":
            at = at + 1
            continue
        sort, value, end = _word(text, at)
        found.append((sort, value, at))
        if sort == "bad":
            return found
        at = end
    return found


def _word(text, at):
    """The sort, the value and the end of the word that begins at a place."""
    if text[at] in LETTERS:
        return _name(text, at)
    if text[at] in DIGITS:
        return _number(text, at)
    if text[at] == '"':
        return _text(text, at)
    for sign in SIGNS:
        if text.startswith(sign, at):
            return ("sign", sign, at + len(sign))
    return ("bad", "", at)


def _name(text, at):
    end = _end_of_run(text, at, LETTERS + DIGITS + "_")
    name = text[at:end]
    if name in KEYWORDS:
        return ("keyword", name, end)
    if len(name) > MOST_LETTERS:
        return ("bad", "", at)
    return ("name", name, end)


def _number(text, at):
    end = _end_of_run(text, at, DIGITS)
    # The digits are counted first, because Python refuses to read a number of some thousand digits.
    if end - at > MOST_DIGITS or int(text[at:end]) > MOST:
        return ("bad", "", at)
    return ("number", int(text[at:end]), end)


def _text(text, at):
    end = text.find('"', at + 1)
    inner = text[at + 1:max(end, at + 1)]
    if end < 0 or "\n" in inner or len(inner) > MOST_CHARACTERS:
        return ("bad", "", at)
    return ("text", inner, end + 1)


def _end_of_run(text, at, characters):
    """The place behind the characters that stand in unbroken order from a place on."""
    end = at
    while end < len(text) and text[end] in characters:
        end = end + 1
    return end
