"""Where a paragraph is cut by rules, among its characters.

Many places are kept as one whole number, which has the bit p (its value is 1 << p) where the place p is among
them. So what holds at each place is worked out for all of them at once.
"""

from segmentrules.errors import NotThere
from segmentrules.rulestext import ANY, CERTAIN


def in_ranges(number, ranges):
    """Whether the number lies in one of the ranges, which rise."""
    first = 0
    behind = len(ranges)
    while first < behind:
        middle = (first + behind) // 2
        if ranges[middle][1] < number:
            first = middle + 1
        else:
            behind = middle
    return first < len(ranges) and ranges[first][0] <= number


class Paragraph:
    """A paragraph's characters as the places where each one, and one of each class, begins."""

    def __init__(self, characters, classes):
        self.length = len(characters)
        self.of_character = {}
        for place, character in enumerate(characters):
            self.of_character[character] = self.of_character.get(character, 0) | (1 << place)
        self.of_class = {}
        for number in classes:
            self.of_class[number] = self.where_in(classes[number])

    def where_in(self, ranges):
        """The places where a character of these ranges begins."""
        places = 0
        for character in self.of_character:
            if in_ranges(character, ranges):
                places = places | self.of_character[character]
        return places

    def where_certain(self, characters):
        """The places where these characters begin, one behind another."""
        places = (1 << self.length) - 1
        for offset, character in enumerate(characters):
            places = places & (self.of_character.get(character, 0) >> offset)
        return places

    def where_atom(self, item):
        """The places where what the item's atom stands for begins, and how many characters that is."""
        if item.kind == ANY:
            return (1 << self.length) - 1, 1
        if item.kind == CERTAIN:
            return self.where_certain(item.atom), len(item.atom)
        return self.of_class[item.atom], 1

    def go_forward(self, places, item):
        """The places at which characters end that the item matches and that begin at one of these."""
        atom_places, length = self.where_atom(item)
        reached = 0
        for times in range(item.most + 1):
            if times >= item.least:
                reached = reached | places
            places = (places & atom_places) << length
        return reached

    def go_back(self, places, item):
        """The places at which characters begin that the item matches and that end at one of these."""
        atom_places, length = self.where_atom(item)
        reached = 0
        for times in range(item.most + 1):
            if times >= item.least:
                reached = reached | places
            places = (places >> length) & atom_places
        return reached

    def where_says(self, rule):
        """The places at which the rule says something, the paragraph's two ends among them."""
        everywhere = (1 << (self.length + 1)) - 1
        before = 1 if rule.from_beginning else everywhere
        for item in rule.before:
            before = self.go_forward(before, item)
        behind = (1 << self.length) if rule.to_end else everywhere
        for item in reversed(rule.behind):
            behind = self.go_back(behind, item)
        return before & behind


def deciding_rule(place, characters, rule_set):
    """The number of the first rule that says something at the place; NotThere if there is no such place or rule."""
    if place < 1 or place >= len(characters):
        raise NotThere()
    paragraph = Paragraph(characters, rule_set.classes)
    for number, rule in enumerate(rule_set.rules):
        if (paragraph.where_says(rule) >> place) & 1 == 1:
            return number
    raise NotThere()


def cut_places(characters, rule_set):
    """The places at which the first rule that says anything there cuts, rising."""
    paragraph = Paragraph(characters, rule_set.classes)
    inner = list(range(1, len(characters)))
    undecided = sum([1 << place for place in inner])
    cuts = 0
    for rule in rule_set.rules:
        decided = undecided & paragraph.where_says(rule)
        if rule.cuts:
            cuts = cuts | decided
        undecided = undecided - decided
    return [place for place in inner if (cuts >> place) & 1 == 1]
