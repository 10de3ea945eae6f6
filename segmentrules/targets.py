"""Targets, which are to stand in segments' places, how they are read, and the document that has them there."""

from segmentrules.documenttext import MOST_DOCUMENT_BYTES, PARAGRAPH_SIGN
from segmentrules.errors import NO_ROW, NO_TARGET, NOT_AS_MANY, NOT_FITTING, TOO_MANY_PIECES
from segmentrules.errors import BeyondBounds, FaultOfKind, read_as
from segmentrules.parting import glue_beside
from segmentrules.reading import HYPHEN, LINE_FEED, line_end
from segmentrules.rowtext import CHARACTER, MOST_PIECES, Part, halves, read_row

TARGET_SIGN = 0x3D
# In front of a line without a target: the segment itself stays.
SEGMENT_SIGN = HYPHEN


def tags_of(part):
    """The tags among the part's pieces, in an order that does not tell where they stand."""
    return sorted([piece for piece in part.pieces if piece[0] != CHARACTER])


def fits(target, segment):
    """Whether the target fits the segment."""
    # A segment is straight, as it is a part of a paired row.
    return halves(target.pieces) == halves(segment.pieces) and tags_of(target) == tags_of(segment)


def check_signs(text, first, behind):
    """Refuse a line that has another sign in front, something behind a sign that stands alone, or no end."""
    if text[first] not in (TARGET_SIGN, SEGMENT_SIGN):
        raise FaultOfKind(NO_TARGET, first)
    if text[first] == SEGMENT_SIGN and behind > first + 1:
        raise FaultOfKind(NO_TARGET, first + 1)
    if behind == len(text):
        raise FaultOfKind(NO_TARGET, behind)


def target_row(text, first, behind):
    """The row of a target's line between these places."""
    row = read_as(NO_ROW, lambda: read_row(text, first + 1, behind))
    if len(row.pieces) > MOST_PIECES:
        raise FaultOfKind(TOO_MANY_PIECES, first)
    return Part(row, 0, len(row.pieces))


def read_targets(text, segments):
    """For each of the segments what is to stand in its place; a FaultOfKind if the text does not tell that."""
    found = []
    first = 0
    while first < len(text):
        number = len(found)
        if number == len(segments):
            raise FaultOfKind(NOT_AS_MANY, first)
        behind = line_end(text, first)
        check_signs(text, first, behind)
        target = segments[number]
        if text[first] == TARGET_SIGN:
            target = target_row(text, first, behind)
            if not fits(target, segments[number]):
                raise FaultOfKind(NOT_FITTING, number)
        found.append(target)
        first = behind + 1
    if len(found) < len(segments):
        raise FaultOfKind(NOT_AS_MANY, len(text))
    return found


def target_line(line, segments, targets):
    """The line's text with the targets in its segments' places; BeyondBounds if it has too many pieces so."""
    if line.row is None:
        return line.text
    glues = glue_beside(segments, line.row)
    parts = [glues[0]]
    for target, behind in zip(targets, glues[1:]):
        parts.extend([target, behind])
    # The bound of 65536 bytes needs no look of its own: no piece has more than the six of an open 999.
    if sum([len(part.pieces) for part in parts]) > MOST_PIECES:
        raise BeyondBounds()
    text = [PARAGRAPH_SIGN]
    for part in parts:
        text.extend(part.text)
    return text


def target_document(lines, by_line, targets):
    """The text of the lines with the targets in their segments' places; BeyondBounds if that is too much."""
    text = []
    first = 0
    for line, segments in zip(lines, by_line):
        behind = first + len(segments)
        text.extend(target_line(line, segments, targets[first:behind]))
        text.append(LINE_FEED)
        first = behind
    if len(text) > MOST_DOCUMENT_BYTES:
        raise BeyondBounds()
    return text
