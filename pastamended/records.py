"""Records: texts that are written as several blocks."""

LONGEST = 32
DIGITS = "0123456789"


def record_blocks(generation, number, text):
    """The texts of the blocks of a record."""
    # An empty text is one empty piece.
    pieces = [text[at:at + LONGEST] for at in range(0, max(len(text), 1), LONGEST)]
    return [f"{generation} {number} {index} {len(pieces)} {piece}" for index, piece in enumerate(pieces)]


def read_block(text):
    """The tuple (generation, number, index, pieces, piece) of a block's text; None if no record has such a block."""
    parts = text.split(" ", 4)
    if len(parts) < 5 or not all([_is_number(part) for part in parts[:4]]):
        return None
    generation, number, index, pieces = [int(part) for part in parts[:4]]
    piece = parts[4]
    if index >= pieces or not _shortest(index, pieces) <= len(piece) <= LONGEST:
        return None
    return (generation, number, index, pieces, piece)


def _shortest(index, pieces):
    """How many characters a piece has at least."""
    if index < pieces - 1:
        return LONGEST
    return 0 if pieces == 1 else 1


def _is_number(text):
    """Whether the text is a number as record_blocks writes it."""
    if text == "" or not all([character in DIGITS for character in text]):
        return False
    return text == "0" or text[0] != "0"
