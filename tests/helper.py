"""What the test files share: how a call is asked, and the document's words written down a second time.

The second writing goes about it as differently as can be: texts are judged whole, by regular expressions, and a
beginning of a text by trying what it could go on with; matching tries every stretch of characters by itself.
"""

import itertools
import re
import unittest

LAST = 0x10FFFF


def utf8(text):
    """The bytes of a text, as the calls take them."""
    return list(text.encode("utf-8"))


def full_text(size):
    """The text of rules within their bounds, of just this many bytes (some thousands at least)."""
    item = '"' + "\U0001d11e" * 32 + '"'
    line = "+ " + (item + " ") * 16 + "|" + (" " + item) * 16 + "\n"
    lines = [line] * ((size - 20) // len(line.encode("utf-8")))
    left = size - sum(len(line.encode("utf-8")) for line in lines)
    # Then as many of such items as there is room for, and what's left is one atom.
    items = min((left - 12) // 131, 32)
    lines.append("+ " + (item + " ") * min(items, 16) + "|" + (" " + item) * max(items - 16, 0) + "\n")
    left = left - 4 - 131 * items
    if left > 135:
        lines.append("+ |\n")
        left = left - 4
    fours, rest = divmod(left - 7, 4)
    lines.append('+ "' + "\U0001d11e" * fours + ["", "a", "\u00e4", "\u20ac"][rest] + '" |\n')
    found = utf8("".join(lines))
    assert len(found) == size
    return found


HIGHEST = 4294967295

# Documents that are none, and the places of their faults; of several reasons the first one tells the place.
FAULTY_DOCUMENTS = [
    # More than 16384 lines.
    ("|\n" * 16385, 32768), (">\n" * 16384 + "x", 32768), ("|\n" * 16384 + "\n", 32768),
    ("|\n" * 16384 + ">a{", 32768), ("|\n>a\n" * 8192 + ">{-1}\n", 40960),
    # A line without a byte, or one that begins with another one.
    ("\n", 0), ("|a\n\n", 3), (">a\n\n|b\n", 3), ("a\n", 0), (" |\n", 0), ("=a\n", 0), ("-\n", 0), ("{|\n", 0),
    (b"\xff\n", 0), (b"|a\n\x00|\n", 3), ("x", 0), ("|a\nb{", 3), ("|a\n>b\n<c\n|d\n", 6),
    # A last line that isn't ended.
    ("|", 1), (">", 1), ("|abc", 4), (">abc", 4), (">a\n|b", 5), ("|\x07", 2), (">{.0}", 5), (">a\n>{+1}b", 9),
    ("|" + "a" * 4097, 4098), (">" + "a" * 4097, 4098), ("|\n" * 16383 + ">", 32767),
    # A byte that no raw line goes on with.
    ("|\x1f\n", 1), ("|a\x7f\n", 2), ("|a\tb\n|\n", 2), ("|a\r\n", 2), ("|\n|\u0080\n", 4), (b"|\xc3\n", 2),
    (b"|a\xe2\x82\n", 4), (b"|\xed\xa0\x80\n", 2), (b"|\xef\xbf\xbe\n", 3), (b"|\xf4\x90\x80\x80\n", 2),
    (b"|a\xff\n", 2), (b"|\xc0\x80\n", 1), ("|" + "a" * 4097 + "\x00\n", 4098),
    # A byte that no row's text goes on with.
    (">{\n", 2), (">a{+\n", 4), (">{+1\n", 4), (">{.0}\n", 3), (">{.01}\n", 3), (">{.1000}\n", 6), (">{a}\n", 2),
    (">{.1x}\n", 4), (">a\tb\n", 2), (b">\xe2\x82\n", 3), (b">\xe2\x82a\n", 3), ("|{\n>{}\n", 5), (">{+1}{\n", 6),
    (">{{{\n", 4), (">" + "a" * 4097 + "{\n", 4099), (">" + "a" * 65536 + "\x7f\n", 65537), (">{-1}\x00\n", 5),
    # More than 4096 characters or pieces, so 65536 bytes or more, too.
    ("|" + "a" * 4097 + "\n", 0), ("|\n|" + "{" * 4097 + "\n", 2), ("|" + "\U0001d11e" * 4097 + "\n", 0),
    (">" + "a" * 4097 + "\n", 0), (">a\n>" + "{{" * 4097 + "\n", 3), (">{+1}" + "a" * 4095 + "{-1}\n", 0),
    (">" + "a" * 65536 + "\n", 0), (">" + "a" * 65537 + "\n", 0), ("|\n>" + "\U0001d11e" * 16384 + "\n", 2),
    # Not paired.
    (">{+1}\n", 0), (">a{-1}\n", 0), ("|{+1}\n>{+1}a{+2}b{-1}{-2}\n", 6), (">a\n>{.1}{.1}\n", 3),
    (">{+1}{-1}{.1}\n", 0), (">{+1}\n>{-1}\n", 0), (">{+1}{-1}{+1}{-1}\n\n", 0), (">{-2}{+2}\n|", 0),
]


class Fixed(list):
    """A list that can't be changed, not for a while either."""

    def refuse(self, *arguments, **named):
        raise AssertionError("what was handed in was to be changed")

    __setitem__ = __delitem__ = __iadd__ = __imul__ = refuse
    append = clear = extend = insert = pop = remove = reverse = sort = refuse


class Asking(unittest.TestCase):
    """Tests that ask a call and look at all that the interface says of its answer."""

    def ask(self, call, *values):
        """What the call answers for these numbers and texts; it is asked three times."""
        handed = copied(values, list)
        answer = call(*handed)
        self.assertTrue(handed == copied(values, list), "what was handed in was changed")
        self.assertIs(type(answer), list)
        for number in answer:
            self.assertIs(type(number), int)
        kept = list(answer)
        # Whoever gets an answer may do with it what he likes: the next one is the same.
        answer.append(-1)
        self.assertTrue(call(*handed) == kept, "the second answer is another one")
        self.assertTrue(call(*copied(values, Fixed)) == kept, "the answer for copies is another one")
        return kept

    def check_call(self, expected, call, *values):
        """That the call answers so for these numbers and texts; a text may be written as one, or as bytes, too."""
        handed = [utf8(value) if isinstance(value, str) else value for value in values]
        answer = self.ask(call, *handed)
        if answer != expected:
            # The lists' whole difference may take minutes to find: their beginnings will do.
            shown = [value if isinstance(value, int) else bytes(value[:80]) for value in handed]
            self.fail(f"{shown}: {answer[:80]} instead of {expected[:80]}")


def all_answers(call, *texts):
    """What the call answers for 0, 1, ... up to the first that isn't there."""
    found = []
    while True:
        answer = call(len(found), *texts)
        if answer == [-2]:
            return found
        assert answer[0] == 0, answer
        found.append(answer)


class RefusedRules:
    """What is refused of rules that are handed in with another text, which is one of RIGHT or refused itself.

    The class that takes this up says by `refuses(answer, rules_text, other_text)` what is asked; the answer is told
    with all that put has behind a refusal, of which other calls have nothing. Where two refusals hold, the first one
    is answered.
    """

    FAULT = "+ x |\n"
    BEYOND = "+ |\n" * 257
    TOO_MUCH = "+ |\n" * 16385

    def test_rules_alone(self):
        for text in self.RIGHT:
            self.refuses([-5, 6, 2], self.FAULT, text)
            self.refuses([-6], self.BEYOND, text)
            self.refuses([-6], self.TOO_MUCH, text)
            self.refuses([-6], "x" * 65537, text)
            self.refuses([-5, 6, 0], "x" * 65536, text)

    def test_each_bound_of_the_rules(self):
        ranges = "%5" + "".join(f" {2 * low}-{2 * low}" for low in range(257)) + "\n"
        item = '"' + "a" * 33 + '"'
        for rules_text in (ranges, ranges + "+ %5 |\n", "+ " + ". " * 17 + "|\n", "+ |" + " ." * 17 + "\n",
                           f"+ {item} |\n", f"+ | {item}*0-0\n", "+ |\n- |\n" * 128 + "+ |\n"):
            for text in self.RIGHT:
                self.refuses([-6], rules_text, text)


class RefusedPairs(RefusedRules):
    """What is refused of rules and a row, as above."""

    RIGHT = ("", "a", "ab", "{+1}a{-1}")

    def test_rows_alone(self):
        for rules_text in ("", "+ |\n"):
            for row in ("ab{", "ab}{}", "ab\n", "ab{.0}", "ab{.1000}", "ab{+01}{-01}", "ab{.1", b"ab\xc3", b"\xffab"):
                self.refuses([-5], rules_text, row)
            for row in ("ab{+1}", "{-1}ab", "{+1}a{+2}b{-1}{-2}", "a{.1}b{.1}", "{.1}a{+1}{-1}b", "{+1}{-1}a{+1}{-1}b"):
                self.refuses([-5], rules_text, row)
            self.refuses([-6], rules_text, "a" * 4097)

    def test_too_many_bytes_before_all_else(self):
        for row in ("ab", "{", "{+1}", "a" * 4097, "{+1}" + "a" * 4096):
            self.refuses([-6], self.TOO_MUCH, row)
            self.refuses([-6], "x" * 65537, row)
        for rules_text in ("", self.FAULT, self.BEYOND, self.TOO_MUCH):
            self.refuses([-6], rules_text, "a" * 65537)
            self.refuses([-6], rules_text, "{" * 65537)
            self.refuses([-6], rules_text, "{+1}" + "a" * 65533)

    def test_just_as_many_bytes_as_may_be(self):
        self.refuses([-5], "x" * 65536, "ab")
        self.refuses([-5], "", "a" * 65535 + "{")

    def test_faults_of_the_rules_before_the_row(self):
        for row in ("{", "{+1}", "a" * 4097, "{+1}" + "a" * 4096, "a" * 4097 + "{"):
            self.refuses([-5], self.FAULT, row)
            self.refuses([-5], self.BEYOND + "x", row)

    def test_bounds_of_the_rules_before_the_row(self):
        # Each text is gone through whole, in the order of the texts.
        for row in ("{", "{+1}", "a" * 4097, "{+1}" + "a" * 4096, "a" * 4097 + "{"):
            self.refuses([-6], self.BEYOND, row)

    def test_a_rows_fault_before_its_pieces_before_its_pairs(self):
        for rules_text in ("", "+ |\n"):
            self.refuses([-5], rules_text, "a" * 4097 + "{")
            self.refuses([-5], rules_text, "{+1}" + "a" * 4097 + "\n")
            self.refuses([-6], rules_text, "{+1}" + "a" * 4096)
            self.refuses([-6], rules_text, "{-1}" * 4097)
            self.refuses([-5], rules_text, "{-1}" * 4096)
            self.refuses([-5], rules_text, "{+1}" + "a" * 4095)


class RefusedDocuments(RefusedRules):
    """What is refused of rules and a document, as above."""

    RIGHT = ("", "|a\n", ">ab\n", ">{+1}a{-1}\n|{\n")

    def test_documents_alone(self):
        for rules_text in ("", "+ |\n"):
            for document, place in FAULTY_DOCUMENTS:
                self.refuses([-5, 7, place], rules_text, document)

    def test_too_many_bytes_of_rules_before_the_document(self):
        for document, place in FAULTY_DOCUMENTS:
            self.refuses([-6], "x" * 65537, document)

    def test_faults_of_the_rules_before_the_document(self):
        for document, place in FAULTY_DOCUMENTS:
            self.refuses([-5, 6, 2], self.FAULT, document)
            self.refuses([-5, 6, 1028], self.BEYOND + "x", document)

    def test_bounds_of_the_rules_before_the_document(self):
        # Each text is gone through whole, in the order of the texts.
        for document, place in FAULTY_DOCUMENTS:
            self.refuses([-6], self.BEYOND, document)


def copied(values, into):
    """The numbers as they are, of each text a copy of this kind."""
    return [value if isinstance(value, int) else into(value) for value in values]


def is_character(number):
    """Whether the number is a character's, range by range."""
    if not (0x20 <= number <= 0x7E or 0xA0 <= number <= 0xD7FF or 0xE000 <= number <= 0x10FFFF):
        return False
    return number & 0xFFFF not in (0xFFFE, 0xFFFF)


NUMBER = rb"(?:0|[1-9][0-9]*)"
ITEM = rb'(?:\.|%' + NUMBER + rb'|"[^"\n]+")(?:\*' + NUMBER + rb"-" + NUMBER + rb")?"
CLASS_LINE = re.compile(rb"%" + NUMBER + rb"(?: " + NUMBER + rb"-" + NUMBER + rb")+")
RULE_LINE = re.compile(rb"[+-] (?:\^ )?(?:" + ITEM + rb" )*\|(?: " + ITEM + rb")*(?: \$)?")
ITEM_PARTS = re.compile(rb'(?:\.|%([0-9]+)|"([^"\n]+)")(?:\*([0-9]+)-([0-9]+))?')


def are_characters(part):
    """Whether the bytes are characters in UTF-8."""
    try:
        return all(is_character(ord(sign)) for sign in part.decode("utf-8"))
    except UnicodeDecodeError:
        return False


def is_item(number, characters, least, most, classes):
    """Whether an item is right, of whose form the regular expression has judged already."""
    if number is not None and int(number) not in classes:
        return False
    if characters is not None and not are_characters(characters):
        return False
    if least is None:
        return True
    return int(least) <= int(most) <= 32 and (least, most) != (b"1", b"1")


def is_rules_text(data):
    """Whether the bytes are some rules' text, whatever is told of how many there may be."""
    if data == b"":
        return True
    if data[-1:] != b"\n":
        return False
    classes = []
    rules_begun = False
    for line in data[:-1].split(b"\n"):
        if CLASS_LINE.fullmatch(line) and not rules_begun:
            number, *ranges = line[1:].split(b" ")
            bounds = [int(bound) for part in ranges for bound in part.split(b"-")]
            if int(number) > 15 or classes and classes[-1] >= int(number) or bounds[-1] > LAST:
                return False
            if any(bounds[i] > bounds[i + 1] for i in range(0, len(bounds), 2)):
                return False
            if any(bounds[i] >= bounds[i + 1] for i in range(1, len(bounds) - 1, 2)):
                return False
            classes.append(int(number))
        elif RULE_LINE.fullmatch(line):
            rules_begun = True
            if not all(is_item(*item, classes) for item in
                       (match.groups() for match in ITEM_PARTS.finditer(line))):
                return False
        else:
            return False
    return True


def ways_on():
    """What is put behind a beginning of a text to see whether some text begins so."""
    digits = {b""}
    digits.update(b"%d" % number for number in range(33))
    digits.update(digit * times for digit in (b"0", b"9") for times in range(1, 7))
    digits.update(b"1114111"[start:] for start in range(7))
    behind_utf8 = [b"", b"\x80", b"\xa0", b"\x80\x80", b"\xa0\x80", b"\x90\x80", b"\x80\x80\x80", b"\x90\x80\x80"]
    found = {b"", b"|\n", b".\n"}
    for end in (b"\n", b" |\n"):
        found.update([b"0-0" + end, b'a"' + end])
        found.update(tail + b'"' + end for tail in behind_utf8)
        found.update(tail + end for tail in digits)
        found.update(tail + b"-32" + end for tail in digits)
    found.update(tail + b" 1114111-1114111\n" for tail in digits)
    found.update(tail + b"-1114111\n" for tail in digits)
    return sorted(found)


WAYS_ON = ways_on()


def begins_rules_text(data):
    """Whether some rules' text begins with the bytes."""
    return any(is_rules_text(data + way) for way in WAYS_ON)


def write_item(item):
    """An item's text; an item is its atom and how often: '.', a class's number or (characters,)."""
    atom, least, most = item
    if atom == ".":
        text = "."
    elif isinstance(atom, int):
        text = f"%{atom}"
    else:
        text = f'"{atom[0]}"'
    return text if (least, most) == (1, 1) else f"{text}*{least}-{most}"


def write_rules(classes, rules):
    """The text of rules; a rule is (cuts, from the beginning, before, behind, to the end)."""
    lines = []
    for number in sorted(classes):
        lines.append(f"%{number}" + "".join(f" {low}-{high}" for low, high in classes[number]))
    for cuts, beginning, before, behind, end in rules:
        words = ["+" if cuts else "-"] + ["^"] * beginning + [write_item(item) for item in before]
        lines.append(" ".join(words + ["|"] + [write_item(item) for item in behind] + ["$"] * end))
    return "".join(line + "\n" for line in lines)


def write_row(row):
    """A row's text; a piece is a character, or a tag as its sign and its number."""
    return "".join("{%s%d}" % piece if isinstance(piece, tuple) else piece.replace("{", "{{") for piece in row)


def write_document(lines):
    """A document's text; a raw line is a text, a paragraph a row for `write_row`."""
    return "".join(("|" + line if isinstance(line, str) else ">" + write_row(line)) + "\n" for line in lines)


PIECE = re.compile(r"\{\{|\{[^}]*\}|.", re.DOTALL)


def pieces_of(row_text):
    """The texts of a row's pieces."""
    return PIECE.findall(row_text)


def is_tag(piece):
    """Whether it is a tag's text."""
    return piece[0] == "{" and piece != "{{"


def marked_parts(marked):
    """Of a row in which each segment stands between < and >, the texts of glue, segment, glue, ... segment, glue."""
    return re.split("[<>]", marked)


def stands_for(atom, text, classes):
    """Whether the atom stands for the text."""
    if atom == ".":
        return len(text) == 1
    if isinstance(atom, int):
        return len(text) == 1 and any(low <= ord(text) <= high for low, high in classes[atom])
    return text == atom[0]


def match(items, text, classes):
    """Whether the items match the text, just the whole of it."""
    if not items:
        return text == ""
    (atom, least, most), rest = items[0], items[1:]
    if least == 0 and match(rest, text, classes):
        return True
    if most == 0:
        return False
    once_less = [(atom, max(least - 1, 0), most - 1)] + rest
    return any(stands_for(atom, text[:size], classes) and match(once_less, text[size:], classes)
               for size in range(1, len(text) + 1))


def says(rule, place, text, classes):
    """Whether the rule says something at the place."""
    beginning, before, behind, end = rule[1:]
    starts = [0] if beginning else range(place + 1)
    ends = [len(text)] if end else range(place, len(text) + 1)
    return (any(match(before, text[start:place], classes) for start in starts)
            and any(match(behind, text[place:stop], classes) for stop in ends))


def decides(place, text, classes, rules):
    """The number of the first rule that says something at the place, None if none does."""
    return next((number for number, rule in enumerate(rules) if says(rule, place, text, classes)), None)


def stretches(row, classes, rules):
    """The stretches into which the row is parted, tags where they belong."""
    text = "".join(piece for piece in row if isinstance(piece, str))
    found = [[]]
    place = 0
    waiting = False
    for piece in row:
        # A cut stands before the next open tag, or else before the next character.
        if waiting and (isinstance(piece, str) or piece[0] == "+"):
            found.append([])
            waiting = False
        found[-1].append(piece)
        if isinstance(piece, str):
            place += 1
            decider = decides(place, text, classes, rules) if place < len(text) else None
            waiting = decider is not None and rules[decider][0]
    return found


def segments(row, classes, rules):
    """The row's segments, each its first piece's place, the place behind its last, and its pieces."""
    found = []
    behind = 0
    for stretch in stretches(row, classes, rules):
        behind += len(stretch)
        if any(isinstance(piece, str) and piece != " " for piece in stretch):
            without_first = list(itertools.dropwhile(lambda piece: piece == " ", stretch))
            pieces = list(itertools.dropwhile(lambda piece: piece == " ", reversed(without_first)))[::-1]
            first = behind - len(without_first)
            found.append((first, first + len(pieces), pieces))
    return found


def small_item(source, classes):
    """An item for `write_item`; the source is one of random numbers."""
    atoms = [".", ("a",), (".",), (" ",), ("ab",), ("aa",), (". ",)] + list(classes)
    least = source.choice([0, 1, 1, 1, 2])
    return source.choice(atoms), least, source.choice([most for most in (0, 1, 2, 3) if most >= least])


def small_rules(source):
    """Classes and rules for `write_rules`."""
    classes = {3: [(97, 97), (123, 123)], 11: [(32, 32), (46, 98)]} if source.random() < 0.7 else {}
    rules = []
    for turn in range(source.randint(0, 4)):
        before, behind = ([small_item(source, classes) for turn in range(source.choice([0, 1, 1, 2, 3]))]
                          for side in range(2))
        rules.append((source.random() < 0.6, source.random() < 0.2, before, behind, source.random() < 0.2))
    return classes, rules


def small_row(source):
    """A paired row for `write_row`."""
    numbers = source.sample(range(1, 1000), 8)
    row, pile = [], []
    for turn in range(source.randint(0, 12)):
        kind = source.randint(0, 7)
        if kind == 0 and len(numbers) > 2:
            pile.append(numbers.pop())
            row.append(("+", pile[-1]))
        elif kind == 1 and pile:
            row.append(("-", pile.pop()))
        elif kind == 2 and len(numbers) > 1:
            row.append((".", numbers.pop()))
        else:
            row.append(source.choice("aab.. {"))
    return row + [("-", number) for number in reversed(pile)]


def small_document(source):
    """A document for `write_document`."""
    raw = ["", "a. b", "{+1}", "|", ">a", " {", "\u20ac"]
    return [small_row(source) if source.random() < 0.7 else source.choice(raw) for turn in range(source.randint(0, 5))]
