"""Bytes gone through from the left, as the texts of rules, rows and documents need it."""

from segmentrules.errors import Fault

# What is looked at behind the last byte: a number that no byte has.
NO_BYTE = 256

LAST_NUMBER = 0x10FFFF

LINE_FEED = 0x0A
BLANK = 0x20
PLUS = 0x2B
HYPHEN = 0x2D
DOT = 0x2E
NOUGHT = 0x30
NINE = 0x39
BAR = 0x7C

# The bounds of the second byte where they are narrower than 80H to BFH (RFC 3629, section 4).
SECOND_BYTES = {0xE0: (0xA0, 0xBF), 0xED: (0x80, 0x9F), 0xF0: (0x90, 0xBF), 0xF4: (0x80, 0x8F)}


def is_character(number):
    """Whether the number is a character's."""
    if number < 0x20 or number > LAST_NUMBER:
        return False
    if 0x7F <= number <= 0x9F or 0xD800 <= number <= 0xDFFF:
        return False
    return number % 0x10000 < 0xFFFE


def first_byte(byte):
    """How many bytes follow a character's first byte, and the byte's share of its number."""
    if byte < 0x80:
        return 0, byte
    if 0xC2 <= byte <= 0xDF:
        return 1, byte - 0xC0
    if 0xE0 <= byte <= 0xEF:
        return 2, byte - 0xE0
    if 0xF0 <= byte <= 0xF4:
        return 3, byte - 0xF0
    # No character begins so; 0 is no character's number.
    return 0, 0


def leads_to(number, least, most):
    """Whether the decimal of some number from least to most begins with this number's."""
    if number == 0:
        # Nothing follows a nought in front.
        return least == 0
    low = number
    high = number
    while low <= most:
        if high >= least:
            return True
        low = low * 10
        high = high * 10 + 9
    return False


def line_end(text, first):
    """The place of the 0AH that ends the line which begins there; how many bytes there are if none does."""
    behind = first
    while behind < len(text) and text[behind] != LINE_FEED:
        behind += 1
    return behind


class Reader:
    """Bytes, the place of the next one, and the place behind the last one that is to be taken.

    What is taken is taken byte by byte, each only if it can stand there, so a Fault tells the first place
    at which the bytes go on as no text does.
    """

    def __init__(self, text, first, behind):
        self.text = text
        self.place = first
        self.behind = behind

    def ended(self):
        """Whether all bytes are taken."""
        return self.place == self.behind

    def look(self):
        """The next byte, not taken; NO_BYTE behind the last."""
        if self.ended():
            return NO_BYTE
        return self.text[self.place]

    def take(self, wanted):
        """Take the next byte, which is to be one of those wanted, and give it back."""
        byte = self.look()
        if byte not in wanted:
            raise Fault(self.place)
        self.place += 1
        return byte

    def take_number(self, ranges):
        """Take a decimal number that lies in one of the ranges, each a least and a most."""
        number = 0
        start = self.place
        while NOUGHT <= self.look() <= NINE:
            # A number that is nought already has no further digit.
            if number == 0 and self.place > start:
                raise Fault(self.place)
            number = number * 10 + self.look() - NOUGHT
            if not any([leads_to(number, least, most) for least, most in ranges]):
                raise Fault(self.place)
            self.place += 1
        if self.place == start or not any([least <= number <= most for least, most in ranges]):
            raise Fault(self.place)
        return number

    def take_character(self):
        """Take a character in UTF-8 and give back its number."""
        least, most = SECOND_BYTES.get(self.look(), (0x80, 0xBF))
        following, number = first_byte(self.look())
        for turn in range(following):
            self.place += 1
            byte = self.look()
            if byte < least or byte > most:
                raise Fault(self.place)
            number = number * 64 + byte - 0x80
            least, most = 0x80, 0xBF
        if not is_character(number):
            raise Fault(self.place)
        self.place += 1
        return number
