"""Where paragraphs are cut by rules, among their characters.

Many places are kept as one whole number, which has the bit p (its value is 1 << p) where the place p is among
them. So what holds at each place is worked out for all of them at once.
"""

from segmentrules.errors import NotThere
from segmentrules.rulestext import ANY, CERTAIN


def in_ranges(number, ranges):
    """Whether the number lies in one of the ranges, which rise."""
    first = 0
    behind = len(ranges)
    while first < behind:
        middle = (first + behind) // 2
        if ranges[middle][1] < number:
            first = middle + 1
        else:
            behind = middle
    return first < len(ranges) and ranges[first][0] <= number


class Paragraphs:
    """Paragraphs' characters, one paragraph behind another, as the places where each character begins.

    Behind its last character each paragraph has one place more, its end. No character begins there, so nothing
    that is matched runs on from one paragraph into the next.
    """

    def __init__(self, paragraphs, classes):
        self.beginnings = 0
        self.ends = 0
        self.of_character = {}
        first = 0
        for characters in paragraphs:
            self.take_up(characters, first)
            first += len(characters) + 1
        self.everywhere = (1 << first) - 1
        self.of_class = {}
        for number in classes:
            self.of_class[number] = self.where_in(classes[number])

    def take_up(self, characters, first):
        """Note the places of one paragraph's characters, the first of which is at that place, and its two ends."""
        self.beginnings = self.beginnings | (1 << first)
        for place, character in enumerate(characters, start=first):
            self.of_character[character] = self.of_character.get(character, 0) | (1 << place)
        self.ends = self.ends | (1 << (first + len(characters)))

    def where_in(self, ranges):
        """The places where a character of these ranges begins."""
        places = 0
        for character in self.of_character:
            if in_ranges(character, ranges):
                places = places | self.of_character[character]
        return places

    def where_certain(self, characters):
        """The places where these characters begin, one behind another."""
        places = self.everywhere
        for offset, character in enumerate(characters):
            places = places & (self.of_character.get(character, 0) >> offset)
        return places

    def where_atom(self, item):
        """The places where what the item's atom stands for begins, and how many characters that is."""
        if item.kind == ANY:
            return self.everywhere - self.ends, 1
        if item.kind == CERTAIN:
            return self.where_certain(item.atom), len(item.atom)
        return self.of_class[item.atom], 1

    def go_forward(self, places, item):
        """The places at which characters end that the item matches and that begin at one of these."""
        atom_places, length = self.where_atom(item)
        reached = 0
        for times in range(item.most + 1):
            if times >= item.least:
                reached = reached | places
            places = (places & atom_places) << length
        return reached

    def go_back(self, places, item):
        """The places at which characters begin that the item matches and that end at one of these."""
        atom_places, length = self.where_atom(item)
        reached = 0
        for times in range(item.most + 1):
            if times >= item.least:
                reached = reached | places
            places = (places >> length) & atom_places
        return reached

    def where_says(self, rule):
        """The places at which the rule says something, the paragraphs' two ends among them."""
        before = self.beginnings if rule.from_beginning else self.everywhere
        for item in rule.before:
            before = self.go_forward(before, item)
        behind = self.ends if rule.to_end else self.everywhere
        for item in reversed(rule.behind):
            behind = self.go_back(behind, item)
        return before & behind

    def where_cut(self, rules):
        """The places at which the first of the rules that says anything there cuts."""
        undecided = self.everywhere - (self.beginnings | self.ends)
        cuts = 0
        for rule in rules:
            decided = undecided & self.where_says(rule)
            if rule.cuts:
                cuts = cuts | decided
            undecided = undecided - decided
        return cuts


def deciding_rule(place, characters, rule_set):
    """The number of the first rule that says something at the place; NotThere if there is no such place or rule."""
    if place < 1 or place >= len(characters):
        raise NotThere()
    paragraph = Paragraphs([characters], rule_set.classes)
    for number, rule in enumerate(rule_set.rules):
        if (paragraph.where_says(rule) >> place) & 1 == 1:
            return number
    raise NotThere()


def cut_places(paragraphs, rule_set):
    """For each of the paragraphs, which are lists of characters, the places at which it is cut, rising."""
    cuts = Paragraphs(paragraphs, rule_set.classes).where_cut(rule_set.rules)
    found = []
    for characters in paragraphs:
        found.append([place for place in range(1, len(characters)) if (cuts >> place) & 1 == 1])
        cuts = cuts >> (len(characters) + 1)
    return found
