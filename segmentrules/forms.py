"""What is counted of rows that are segments: their words, and how many have a form that an earlier one has."""

from segmentrules.reading import BLANK
from segmentrules.rowtext import CHARACTER

# The signs, as ranges of characters' numbers.
SIGNS = ((0x21, 0x2F), (0x3A, 0x40), (0x5B, 0x60), (0x7B, 0x7E), (0xA1, 0xBF), (0xD7, 0xD7), (0xF7, 0xF7),
         (0x2010, 0x206F), (0x3000, 0x303F))


def is_sign(number):
    """Whether the number is that of a sign."""
    return any([low <= number <= high for low, high in SIGNS])


def words_in(pieces):
    """How many words are among the pieces."""
    words = 0
    within = False
    for kind, number in pieces:
        goes_on = kind == CHARACTER and number != BLANK and not is_sign(number)
        if goes_on and not within:
            words += 1
        within = goes_on
    return words


def form_of(pieces):
    """The pieces with their tags' numbers renamed in the order in which they first stand."""
    renamed = {}
    found = []
    for kind, number in pieces:
        if kind == CHARACTER:
            found.append((kind, number))
        else:
            found.append((kind, renamed.setdefault(number, len(renamed) + 1)))
    return tuple(found)


def of_earlier_form(rows):
    """How many of the rows, which are lists of pieces, are of one form with an earlier one."""
    forms = {}
    for pieces in rows:
        forms[form_of(pieces)] = True
    return len(rows) - len(forms)
