"""Rules, and how they are read from their text."""

from segmentrules.errors import BeyondBounds, Fault
from segmentrules.reading import BAR, BLANK, DOT, HYPHEN, LAST_NUMBER, LINE_FEED, PLUS, Reader

QUOTE = 0x22
DOLLAR = 0x24
PERCENT = 0x25
STAR = 0x2A
CARET = 0x5E

# What kind of atom an item has.
ANY = 0
OF_CLASS = 1
CERTAIN = 2

LAST_CLASS = 15
MOST_TIMES = 32

MOST_RULES = 256
MOST_RANGES = 256
MOST_ITEMS = 16
MOST_CHARACTERS = 32


class Item:
    """An atom, and from how many to how many times it is to stand.

    The atom is 0 for any character, a class's number, or a list of certain characters, as its kind tells.
    """

    def __init__(self, kind, atom, least, most):
        self.kind = kind
        self.atom = atom
        self.least = least
        self.most = most


class Rule:
    """Whether a rule cuts, what it wants before and behind a place, and whether these are to touch the ends."""

    def __init__(self, cuts, from_beginning, before, behind, to_end):
        self.cuts = cuts
        self.from_beginning = from_beginning
        self.before = before
        self.behind = behind
        self.to_end = to_end


class RuleSet:
    """Classes by their numbers, each a list of ranges (low, high), and rules in order."""

    def __init__(self, classes, rules):
        self.classes = classes
        self.rules = rules


def read_range(reader, least):
    """A range of a class, the blank before it too; it begins at least at that number."""
    reader.take([BLANK])
    low = reader.take_number([(least, LAST_NUMBER)])
    reader.take([HYPHEN])
    high = reader.take_number([(low, LAST_NUMBER)])
    return low, high


def read_ranges(reader):
    """The ranges of a class, up to the end of its line."""
    ranges = [read_range(reader, 0)]
    # Behind the last number of all no further range can stand.
    while reader.look() == BLANK and ranges[-1][1] < LAST_NUMBER:
        ranges.append(read_range(reader, ranges[-1][1] + 1))
    reader.take([LINE_FEED])
    return ranges


def read_classes(reader):
    """The classes in front of the rules."""
    classes = {}
    least = 0
    # Behind the class with the last number no further class can stand.
    while reader.look() == PERCENT and least <= LAST_CLASS:
        reader.take([PERCENT])
        number = reader.take_number([(least, LAST_CLASS)])
        classes[number] = read_ranges(reader)
        least = number + 1
    return classes


def read_certain(reader):
    """Certain characters between quotes, one at least."""
    reader.take([QUOTE])
    if reader.look() == QUOTE:
        raise Fault(reader.place)
    characters = []
    while reader.look() != QUOTE:
        characters.append(reader.take_character())
    reader.take([QUOTE])
    return characters


def read_atom(reader, known):
    """An atom's kind and the atom; known are the numbers of the classes that are there."""
    if reader.look() == QUOTE:
        return CERTAIN, read_certain(reader)
    if reader.look() == PERCENT and known:
        reader.take([PERCENT])
        return OF_CLASS, reader.take_number([(number, number) for number in known])
    reader.take([DOT])
    return ANY, 0


def read_item(reader, known):
    """An atom and how often it is to stand."""
    kind, atom = read_atom(reader, known)
    if reader.look() != STAR:
        return Item(kind, atom, 1, 1)
    reader.take([STAR])
    least = reader.take_number([(0, MOST_TIMES)])
    reader.take([HYPHEN])
    # Once and no more is written without a star.
    least_most = 2 if least == 1 else least
    most = reader.take_number([(least_most, MOST_TIMES)])
    return Item(kind, atom, least, most)


def read_before(reader, known):
    """The items for what stands before a place, up to the bar behind them."""
    items = []
    while reader.look() != BAR:
        items.append(read_item(reader, known))
        reader.take([BLANK])
    reader.take([BAR])
    return items


def read_behind(reader, known):
    """The items for what stands behind a place, up to the line's end, and whether the end is wanted."""
    items = []
    to_end = False
    while reader.look() == BLANK and not to_end:
        reader.take([BLANK])
        if reader.look() == DOLLAR:
            reader.take([DOLLAR])
            to_end = True
        else:
            items.append(read_item(reader, known))
    reader.take([LINE_FEED])
    return items, to_end


def read_rule(reader, known):
    """A rule's line."""
    cuts = reader.take([PLUS, HYPHEN]) == PLUS
    reader.take([BLANK])
    from_beginning = reader.look() == CARET
    if from_beginning:
        reader.take([CARET])
        reader.take([BLANK])
    before = read_before(reader, known)
    behind, to_end = read_behind(reader, known)
    return Rule(cuts, from_beginning, before, behind, to_end)


def read_rules(text):
    """The rules that have this text, however many of each thing there are; a Fault if none have it."""
    reader = Reader(text, 0, len(text))
    classes = read_classes(reader)
    known = list(classes)
    found = []
    while not reader.ended():
        found.append(read_rule(reader, known))
    return RuleSet(classes, found)


def items_beyond_bounds(items):
    """Whether these are too many items, or one of their atoms is too long."""
    if len(items) > MOST_ITEMS:
        return True
    return any([item.kind == CERTAIN and len(item.atom) > MOST_CHARACTERS for item in items])


def beyond_bounds(rule_set):
    """Whether the rules have more of something than rules may have."""
    if len(rule_set.rules) > MOST_RULES:
        return True
    if any([len(ranges) > MOST_RANGES for ranges in rule_set.classes.values()]):
        return True
    return any([items_beyond_bounds(rule.before) or items_beyond_bounds(rule.behind) for rule in rule_set.rules])


def checked_rules(text):
    """The rules that have this text; a Fault, or BeyondBounds, if they are not right."""
    rule_set = read_rules(text)
    if beyond_bounds(rule_set):
        raise BeyondBounds()
    return rule_set
