"""Rows of pieces, and how they are read from their text.

A piece is its kind and its number: a character's, or that of a tag.
"""

from segmentrules.errors import BeyondBounds, NotPaired
from segmentrules.reading import DOT, HYPHEN, PLUS, Reader

LEFT_BRACE = 0x7B
RIGHT_BRACE = 0x7D

# A tag's kind is the byte that tells it in the text.
CHARACTER = 0
OPENS = PLUS
CLOSES = HYPHEN
ALONE = DOT

LAST_TAG = 999
MOST_PIECES = 4096


class Row:
    """A row's pieces, and a text with the places in it where each of them begins and where the last one ends."""

    def __init__(self, text, pieces, starts):
        self.text = text
        self.pieces = pieces
        self.starts = starts


class Part:
    """What stands in a row from one place up to another: these places, the pieces and their text."""

    def __init__(self, row, first, behind):
        self.first = first
        self.behind = behind
        self.pieces = row.pieces[first:behind]
        # A row has one text alone, so the pieces' own is a part of it as it stands.
        self.text = row.text[row.starts[first]:row.starts[behind]]


def read_piece(reader):
    """A character or a tag."""
    if reader.look() != LEFT_BRACE:
        return CHARACTER, reader.take_character()
    reader.take([LEFT_BRACE])
    kind = reader.take([LEFT_BRACE, PLUS, HYPHEN, DOT])
    if kind == LEFT_BRACE:
        return CHARACTER, LEFT_BRACE
    number = reader.take_number([(1, LAST_TAG)])
    reader.take([RIGHT_BRACE])
    return kind, number


def read_row(text, first, behind):
    """The row that has this part of a text, however many pieces it has; a Fault if none has it."""
    reader = Reader(text, first, behind)
    pieces = []
    starts = [first]
    while not reader.ended():
        pieces.append(read_piece(reader))
        starts.append(reader.place)
    return Row(text, pieces, starts)


def characters_of(row):
    """The numbers of the row's characters, tags left out."""
    return [number for kind, number in row.pieces if kind == CHARACTER]


def halves(pieces):
    """The left and the right halves of a row of these pieces, each in order; None if it is not straight."""
    left = []
    pile = []
    seen = {}
    for kind, number in pieces:
        if kind == CLOSES and pile:
            if pile.pop() != number:
                return None
        elif kind != CHARACTER:
            # A number that comes again is right only as the close of the pile's top: that has been asked above.
            if number in seen:
                return None
            seen[number] = True
            if kind == OPENS:
                pile.append(number)
            elif kind == CLOSES:
                left.append(number)
    return left, pile


def is_paired(row):
    """Whether the row is straight without halves."""
    return halves(row.pieces) == ([], [])


def checked_row(text):
    """The paragraph's row that has this text; a Fault, BeyondBounds or NotPaired if it is not right."""
    row = read_row(text, 0, len(text))
    if len(row.pieces) > MOST_PIECES:
        raise BeyondBounds()
    if not is_paired(row):
        raise NotPaired()
    return row
