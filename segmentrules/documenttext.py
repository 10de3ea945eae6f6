"""Documents, and how they are read from their text."""

from segmentrules.errors import Fault
from segmentrules.reading import BAR, Reader, line_end
from segmentrules.rowtext import MOST_PIECES, is_paired, read_row

RAW_SIGN = BAR
PARAGRAPH_SIGN = 0x3E

MOST_DOCUMENT_BYTES = 262144
MOST_LINES = 16384
MOST_CHARACTERS = 4096


class Line:
    """A line's text, its sign too, without the 0AH behind it; and its row, which a raw line does not have."""

    def __init__(self, text, row):
        self.text = text
        self.row = row


def check_raw(text, first, behind):
    """Refuse a line that is not raw, by its first byte or by the one that no characters go on with."""
    reader = Reader(text, first + 1, behind)
    characters = 0
    while not reader.ended():
        reader.take_character()
        characters += 1
    if characters > MOST_CHARACTERS:
        raise Fault(first)


def paragraph_row(text, first, behind):
    """The row of a line that is a paragraph; a Fault if it is none."""
    row = read_row(text, first + 1, behind)
    # The bound of 65536 bytes needs no look of its own: no piece has more than the six of an open 999.
    if len(row.pieces) > MOST_PIECES or not is_paired(row):
        raise Fault(first)
    return row


def read_line(text, first, behind):
    """The line between these places, of which the second is that of the 0AH; a Fault if it is none."""
    if text[first] not in (RAW_SIGN, PARAGRAPH_SIGN):
        raise Fault(first)
    if behind == len(text):
        raise Fault(behind)
    if text[first] == PARAGRAPH_SIGN:
        return Line(text[first:behind], paragraph_row(text, first, behind))
    check_raw(text, first, behind)
    return Line(text[first:behind], None)


def read_document(text):
    """The lines of the document that has this text; a Fault if none has it."""
    lines = []
    first = 0
    while first < len(text):
        if len(lines) == MOST_LINES:
            raise Fault(first)
        behind = line_end(text, first)
        lines.append(read_line(text, first, behind))
        first = behind + 1
    return lines
