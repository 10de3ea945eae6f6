"""What the document promises of the whole program: B1 to B3, of documents and rules of several kinds."""

import collections
import random
import unittest

from helper import (all_answers, is_tag, pieces_of, small_document, small_row, small_rules, utf8, write_document,
                    write_row, write_rules)
from segmentrules.segments import count, glue, nth, put, rule, seg, segs

CLASSES = "%0 65-90\n%1 97-122\n%2 48-57\n%15 0-1114111\n"

RULES = [
    "", "+ |\n", "- |\n+ |\n", '+ "." |\n', '+ | "."\n', '+ " " |\n', '+ | " "\n', '- ^ . |\n+ "." | . .\n',
    CLASSES + '- "z." | " " %0\n- %2 "." | " " %1\n+ "." | " " %0\n+ "!"*1-3 | " "*0-2\n+ | %0 %15*2-2 $\n',
    CLASSES + '- ^ %15*0-4 |\n- | %15*0-3 $\n+ %1 | " "\n+ %2*2-2 |\n+ "." |\n',
    '- "..." |\n+ "."*2-2 |\n- | "{"\n+ "{" |\n+ "\u20ac" | "\U0001d11e"\n',
]

ROWS = [
    "", " ", "a", "a. b. c.", "  One. Two!! Three? z. B. 12. x 3. Y  ", "{+1}One. {+2}Two{-2}.{-1} Three.{.9}",
    "{.1} {.2}", " {+1} {-1} ", "a.{+1} {-1} b. {.3} ", "{{.{{ . }.", "\u20ac\U0001d11e. \u20ac \U0001d11e",
    "{+999}{+1}a. b{-1}.{-999} {.2} c", "a...b..c.", ". . .", "{+1} a. {.5} {-1} {+2} b. {-2} ", "Ab. Cd  Ef",
]

RAW = ["", "a. b", "{+1}", ">a\u20ac"]


def kinds_of_rules_and_rows():
    """Rules and rows as texts: all of these rules with all of these rows, then random ones."""
    for rules_text in RULES:
        for row_text in ROWS:
            yield rules_text, row_text
    source = random.Random(20261202)
    for turn in range(200):
        yield write_rules(*small_rules(source)), write_row(small_row(source))


def kinds_of_rules_and_documents():
    """Rules and documents as texts."""
    source = random.Random(20261203)
    for rules_text in RULES:
        lines = [">" + row for row in ROWS] + ["|" + raw for raw in RAW]
        for turn in range(3):
            source.shuffle(lines)
            yield rules_text, "".join(line + "\n" for line in lines)
    for turn in range(150):
        yield write_rules(*small_rules(source)), write_document(small_document(source))


def text_behind(answer, place):
    """The text of which the number of bytes stands at this place of an answer, and nothing behind it."""
    data = answer[place + 1:]
    assert answer[place] == len(data)
    return bytes(data).decode("utf-8")


def tags_of(row_text):
    """The texts of the row's tags."""
    return [piece for piece in pieces_of(row_text) if is_tag(piece)]


def shuffled(source, text):
    """A target that fits the segment of this text, with other characters, and tags elsewhere if that goes."""
    pieces = tags_of(text) + [source.choice("xyz .{\u20ac").replace("{", "{{") for turn in range(source.randint(0, 4))]
    # The halves keep their order; each pair, and each tag alone, goes to a place where nothing is parted by it.
    numbers = collections.Counter(tag[2:] for tag in tags_of(text))
    halves = [tag for tag in tags_of(text) if numbers[tag[2:]] == 1 and tag[1] != "."]
    target = [tag for tag in halves if tag[1] == "-"] + [tag for tag in halves if tag[1] == "+"]
    for piece in source.sample(pieces, len(pieces)):
        if is_tag(piece) and piece[1] == "+" and numbers[piece[2:]] == 2:
            place = source.randint(0, len(target))
            target[place:place] = [piece, "{-" + piece[2:]]
        elif not is_tag(piece) or piece[1] == ".":
            target.insert(source.randint(0, len(target)), piece)
    return "".join(target)


class TheFirstRuleDecides(unittest.TestCase):
    """B1."""

    def test_the_first_that_says_something_by_itself(self):
        for rules_text, row_text in kinds_of_rules_and_rows():
            lines = rules_text.splitlines(keepends=True)
            classes = "".join(line for line in lines if line[0] == "%")
            rules = [line for line in lines if line[0] != "%"]
            row = utf8(row_text)
            places = len([piece for piece in pieces_of(row_text) if not is_tag(piece)])
            alone = [[rule(place, utf8(classes + line), row) for place in range(places + 1)] for line in rules]
            for place in range(places + 1):
                expected = [-2]
                for number in reversed(range(len(rules))):
                    if alone[number][place] != [-2]:
                        self.assertEqual(alone[number][place], [1 if rules[number][0] == "+" else 0])
                        expected = [2 * number + alone[number][place][0]]
                with self.subTest(rules=rules_text, row=row_text, place=place):
                    self.assertEqual(rule(place, utf8(rules_text), row), expected)

    def test_segments_end_where_it_cuts(self):
        # In a row without blanks and tags there are as many segments as cuts, and one more.
        for rules_text, row_text in kinds_of_rules_and_rows():
            characters = [piece for piece in pieces_of(row_text) if not is_tag(piece) and piece != " "]
            row = utf8("".join(characters))
            cuts = [place for place in range(len(characters)) if rule(place, utf8(rules_text), row)[0] % 2 == 1]
            ends = [answer[2] for answer in all_answers(seg, utf8(rules_text), row)]
            with self.subTest(rules=rules_text, row=characters):
                self.assertEqual(ends, cuts + [len(characters)] if characters else [])


class PartedAndPutTogether(unittest.TestCase):
    """B2."""

    def check_segment(self, text):
        self.assertNotEqual(text[0], " ")
        self.assertNotEqual(text[-1], " ")
        self.assertTrue(any(piece != " " and not is_tag(piece) for piece in pieces_of(text)), text)

    def test_paragraphs(self):
        for rules_text, row_text in kinds_of_rules_and_rows():
            texts = utf8(rules_text), utf8(row_text)
            with self.subTest(rules=rules_text, row=row_text):
                found = [text_behind(answer, 3) for answer in all_answers(seg, *texts)]
                between = [text_behind(answer, 1) for answer in all_answers(glue, *texts)]
                self.assertEqual(count(*texts), [len(found)])
                self.assertEqual(len(between), len(found) + 1)
                together = between[0] + "".join(text + behind for text, behind in zip(found, between[1:]))
                self.assertEqual(together, row_text)
                for text in found:
                    self.check_segment(text)
                for text in between:
                    self.assertTrue(all(piece == " " or is_tag(piece) for piece in pieces_of(text)), text)

    def test_documents(self):
        for rules_text, document in kinds_of_rules_and_documents():
            texts = utf8(rules_text), utf8(document)
            lines = document.split("\n")
            with self.subTest(rules=rules_text, document=document):
                answers = all_answers(nth, *texts)
                self.assertEqual(segs(*texts)[:2], [0, len(answers)])
                self.assertEqual(segs(*texts)[4], sum(answer[3] - answer[2] for answer in answers))
                last = (0, 0)
                for answer in answers:
                    text = text_behind(answer, 4)
                    self.check_segment(text)
                    self.assertEqual(lines[answer[1]][0], ">")
                    pieces = pieces_of(lines[answer[1]][1:])
                    self.assertEqual("".join(pieces[answer[2]:answer[3]]), text)
                    self.assertLessEqual(last, (answer[1], answer[2]))
                    last = (answer[1], answer[3])


class TargetDocuments(unittest.TestCase):
    """B3."""

    def check_document(self, rules_text, document, targets):
        """That with these targets there's a document, and that it is the source's in all that is promised."""
        answer = put(utf8(rules_text), utf8(document), utf8(targets))
        self.assertEqual(answer[0], 0, (rules_text, document, targets, answer))
        text = text_behind(answer, 1)
        self.assertEqual(segs([], utf8(text))[0], 0, text)
        lines, found = document.split("\n"), text.split("\n")
        self.assertEqual(len(found), len(lines))
        for line, beside in zip(lines, found):
            if line[:1] == ">":
                self.assertEqual(beside[0], ">")
                # It is a paragraph, so it's paired.
                self.assertGreaterEqual(count([], utf8(beside[1:]))[0], 0, beside)
                self.assertEqual(sorted(tags_of(beside[1:])), sorted(tags_of(line[1:])))
            else:
                self.assertEqual(beside, line)
        return text

    def test_segments_everywhere(self):
        for rules_text, document in kinds_of_rules_and_documents():
            number = segs(utf8(rules_text), utf8(document))[1]
            with self.subTest(rules=rules_text, document=document):
                self.assertEqual(self.check_document(rules_text, document, "-\n" * number), document)

    def test_segments_as_their_own_targets(self):
        for rules_text, document in kinds_of_rules_and_documents():
            found = [text_behind(answer, 4) for answer in all_answers(nth, utf8(rules_text), utf8(document))]
            targets = "".join("=" + text + "\n" for text in found)
            with self.subTest(rules=rules_text, document=document):
                self.assertEqual(self.check_document(rules_text, document, targets), document)

    def test_targets_that_fit(self):
        source = random.Random(20261204)
        for rules_text, document in kinds_of_rules_and_documents():
            found = [text_behind(answer, 4) for answer in all_answers(nth, utf8(rules_text), utf8(document))]
            targets = "".join(source.choice(["-", "=" + shuffled(source, text)]) + "\n" for text in found)
            with self.subTest(rules=rules_text, document=document, targets=targets):
                self.check_document(rules_text, document, targets)


if __name__ == "__main__":
    unittest.main()
