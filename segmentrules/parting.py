"""How the cuts part a row into stretches, and these into segments and what stands between them.

A stretch or a segment is two places in the row: that of its first piece, and the one behind its last.
"""

from segmentrules.cutting import cut_places
from segmentrules.errors import NotThere
from segmentrules.reading import BLANK
from segmentrules.rowtext import ALONE, CHARACTER, CLOSES, characters_of

BLANK_PIECE = (CHARACTER, BLANK)


def cut_behind(pieces, place):
    """Where in the row the cut stands that is behind the character at this place, which is not the last one."""
    cut = place + 1
    # Tags that close or stand alone belong to what is before them; an open one, or a character, comes at last.
    while pieces[cut][0] in (CLOSES, ALONE):
        cut += 1
    return cut


def stretches(row, rule_set):
    """The stretches into which the cuts part the row, in order."""
    at = [place for place, piece in enumerate(row.pieces) if piece[0] == CHARACTER]
    found = []
    first = 0
    for cut in cut_places(characters_of(row), rule_set):
        behind = cut_behind(row.pieces, at[cut - 1])
        found.append((first, behind))
        first = behind
    found.append((first, len(row.pieces)))
    return found


def is_glue(pieces):
    """Whether there is no character but blanks among the pieces."""
    return all([kind != CHARACTER or number == BLANK for kind, number in pieces])


def without_blanks(pieces, first, behind):
    """The stretch without the blanks that it begins and ends with; it is to have some other character."""
    while pieces[first] == BLANK_PIECE:
        first += 1
    while pieces[behind - 1] == BLANK_PIECE:
        behind -= 1
    return first, behind


def segments_of(row, rule_set):
    """The segments that the rules make of the row, in order."""
    found = []
    for first, behind in stretches(row, rule_set):
        if not is_glue(row.pieces[first:behind]):
            found.append(without_blanks(row.pieces, first, behind))
    return found


def segment_of(number, row, rule_set):
    """The segment of this number; NotThere if there is none."""
    found = segments_of(row, rule_set)
    if number >= len(found):
        raise NotThere()
    return found[number]
