"""How the cuts part a row into stretches, and these into segments and glue, which stands between them."""

from segmentrules.cutting import cut_places
from segmentrules.errors import NotThere
from segmentrules.reading import BLANK
from segmentrules.rowtext import ALONE, CHARACTER, CLOSES, Part, characters_of

BLANK_PIECE = (CHARACTER, BLANK)


def cut_behind(pieces, place):
    """Where in the row the cut stands that is behind the character at this place, which is not the last one."""
    cut = place + 1
    # Tags that close or stand alone belong to what is before them; an open one, or a character, comes at last.
    while pieces[cut][0] in (CLOSES, ALONE):
        cut += 1
    return cut


def stretches(row, cuts):
    """The stretches into which the row is parted by cuts at these places among its characters, in order."""
    at = [place for place, piece in enumerate(row.pieces) if piece[0] == CHARACTER]
    found = []
    first = 0
    for cut in cuts:
        behind = cut_behind(row.pieces, at[cut - 1])
        found.append(Part(row, first, behind))
        first = behind
    found.append(Part(row, first, len(row.pieces)))
    return found


def has_segment(stretch):
    """Whether there is a character in the stretch that is no blank."""
    return any([kind == CHARACTER and number != BLANK for kind, number in stretch.pieces])


def without_blanks(row, stretch):
    """The stretch of the row without the blanks that it begins and ends with; it is to have some other character."""
    first = stretch.first
    while row.pieces[first] == BLANK_PIECE:
        first += 1
    behind = stretch.behind
    while row.pieces[behind - 1] == BLANK_PIECE:
        behind -= 1
    return Part(row, first, behind)


def segments_of(rows, rule_set):
    """For each of the rows the segments that the rules make of it, in order."""
    found = []
    for row, cuts in zip(rows, cut_places([characters_of(row) for row in rows], rule_set)):
        found.append([without_blanks(row, stretch) for stretch in stretches(row, cuts) if has_segment(stretch)])
    return found


def segments_by_line(lines, rule_set):
    """For each line of a document the segments that the rules make of it, in order; a raw line has none."""
    found = [[] for line in lines]
    numbers = [number for number, line in enumerate(lines) if line.row is not None]
    rows = [lines[number].row for number in numbers]
    for number, segments in zip(numbers, segments_of(rows, rule_set)):
        found[number] = segments
    return found


def numbered(by_line):
    """The segments of a document, of which those of each line are handed in; before each its line's number."""
    found = []
    for number, segments in enumerate(by_line):
        found.extend([(number, segment) for segment in segments])
    return found


def glue_beside(segments, row):
    """The glue before, between and behind these segments of the row, in order."""
    found = []
    first = 0
    for segment in segments:
        found.append(Part(row, first, segment.first))
        first = segment.behind
    found.append(Part(row, first, len(row.pieces)))
    return found


def of_number(number, found):
    """The one of this number; NotThere if there is none."""
    if number >= len(found):
        raise NotThere()
    return found[number]
