"""The call nth: a segment of a document, its line, where it stands there and its text, or why it is refused."""

import random
import unittest

from helper import (HIGHEST, Asking, RefusedDocuments, all_answers, full_text, marked_parts, pieces_of, segments,
                    small_document, small_rules, utf8, write_document, write_row, write_rules)
from segmentrules.segments import nth, seg, segs

SENTENCES = '%0 65-90\n- "z." | " B."\n+ "." | " " %0\n+ "!" | " "\n'


class NthCase(Asking):
    """Tests of nth."""

    def check(self, expected, number, rules_text, document):
        self.check_call(expected, nth, number, rules_text, document)

    def check_segment(self, line, first, behind, text, number, rules_text, document):
        data = utf8(text)
        self.check([0, line, first, behind, len(data)] + data, number, rules_text, document)

    def check_all(self, found, rules_text, document):
        """That these are all the segments: line, first place, place behind and text of each."""
        for number, (line, first, behind, text) in enumerate(found):
            self.check_segment(line, first, behind, text, number, rules_text, document)
        for number in (len(found), len(found) + 1, HIGHEST - 1, HIGHEST):
            self.check([-2], number, rules_text, document)

    def check_marked(self, rules_text, lines):
        """A document's lines, in which each segment stands between < and >, but for a paragraph's sign."""
        found = []
        document = ""
        for number, line in enumerate(lines):
            parts = marked_parts(line[1:]) if line[0] == ">" else [line[1:]]
            document += line[0] + "".join(parts) + "\n"
            place = 0
            for turn, part in enumerate(parts):
                behind = place + len(pieces_of(part))
                if turn % 2 == 1:
                    found.append((number, place, behind, part))
                place = behind
        with self.subTest(rules=rules_text, document=document):
            self.check_all(found, rules_text, document)


class Ordinary(NthCase):
    def test_numbers_as_they_are_answered(self):
        document = "|<p>\n> One. {+1}Two{-1}.\n"
        self.check([0, 1, 1, 5, 4, 79, 110, 101, 46], 0, SENTENCES, document)
        self.check([0, 1, 6, 12, 12, 123, 43, 49, 125, 84, 119, 111, 123, 45, 49, 125, 46], 1, SENTENCES, document)
        self.check([-2], 2, SENTENCES, document)

    def test_one_paragraph(self):
        self.check_marked(SENTENCES, ["><One.> <Two.> <Three.>"])
        self.check_marked("", ["> <a b> "])

    def test_raw_lines_before_and_between(self):
        self.check_marked(SENTENCES, ["|Title. It", "><One.> <Two.>", "|", "|{+1}", "> <Three>", "|end. End."])
        self.check_marked("+ |\n", ["|", "|", "><a><b>", "|ab", "><c>"])

    def test_paragraphs_without_a_segment(self):
        self.check_marked("+ |\n", [">", "> ", "><a><b>", ">{.1}", ">  {+1} {-1}", "><c>", ">"])
        self.check_marked("", [">", "|", "><a>", ">   ", "><b>"])

    def test_several_segments_in_a_line(self):
        self.check_marked('+ "." |\n', ["><a.> <b.>  <c>", "> <d.><e.><f.> ", "><g>"])
        self.check_marked('+ "." |\n', ["><{+1}a.{-1}> <{.2}b.>  <c{.3}>", "|a. b.", "> <{+1}d.><e.{-1}>"])

    def test_segments_alike(self):
        self.check_marked('+ "." |\n', ["><a.><a.>", "><a.>", "|a.", "><a.> <a.>"])

    def test_places_from_the_rows_beginning(self):
        document = ">" + "\u20ac" * 50 + "\n|" + "a" * 50 + "\n>{{{.12}b c\n"
        self.check_segment(0, 0, 50, "\u20ac" * 50, 0, '+ " " |\n', document)
        self.check_segment(2, 0, 3, "{{{.12}b", 1, '+ " " |\n', document)
        self.check_segment(2, 4, 5, "c", 2, '+ " " |\n', document)

    def test_lines_from_the_documents_beginning(self):
        for raw in range(5):
            self.check_segment(raw, 0, 1, "a", 0, "", "|a\n" * raw + ">a\n")
            self.check_segment(raw, 0, 1, "a", 0, "", ">\n" * raw + ">a\n")
            self.check_segment(2 * raw + 1, 0, 1, "b", raw, "", "|a\n>b\n" * 5)

    def test_each_line_by_itself(self):
        self.check_marked('+ "a" | "b"\n', ["><a>", "><b>", "><a><b>"])
        self.check_marked('+ ^ "a" |\n', ["><a><aa>", "><ba>", "><a><b>"])
        self.check_marked('+ | "a" $\n', ["><aa><a>", "><ab>", "><b><a>"])

    def test_the_same_tags_in_other_lines(self):
        self.check_marked("+ |\n", ["><{+1}a><b{-1}>", "><{.1}c{.2}>", "><{+2}{-2}d{+1}{-1}>"])


class Numbers(NthCase):
    def test_the_first_and_the_last(self):
        document = "|\n>a.b.\n|\n>c.\n"
        self.check_segment(1, 0, 2, "a.", 0, '+ "." |\n', document)
        self.check_segment(1, 2, 4, "b.", 1, '+ "." |\n', document)
        self.check_segment(3, 0, 2, "c.", 2, '+ "." |\n', document)
        for number in (3, 4, HIGHEST - 1, HIGHEST):
            self.check([-2], number, '+ "." |\n', document)

    def test_without_a_segment(self):
        for document in ("", "|\n", ">\n", "|a b\n", "> {+1} {-1}\n|a\n>{.1}\n", "|>a\n"):
            for rules_text in ("", "+ |\n"):
                for number in (0, 1, HIGHEST - 1, HIGHEST):
                    self.check([-2], number, rules_text, document)


class Bounds(NthCase):
    def test_lines(self):
        for number in (0, 1, 8191, 16382, 16383):
            self.check_segment(number, 0, 1, "a", number, "", ">a\n" * 16384)
        self.check([-2], 16384, "", ">a\n" * 16384)
        self.check([-5], 0, "", ">a\n" * 16385)
        self.check_segment(16383, 1, 2, "b", 1, "+ |\n", "|\n" * 16383 + ">ab\n")

    def test_characters_of_a_raw_line(self):
        self.check_segment(1, 0, 1, "a", 0, "", "|" + "\U0001d11e" * 4096 + "\n>a\n")
        self.check([-5], 0, "", "|" + "\U0001d11e" * 4097 + "\n>a\n")

    def test_pieces_of_a_paragraph(self):
        for number in (0, 1, 4095):
            self.check_segment(0, number, number + 1, "\u20ac", number, "+ |\n", ">" + "\u20ac" * 4096 + "\n")
        self.check_segment(1, 4095, 4096, "{{", 8191, "+ |\n", (">" + "{{" * 4096 + "\n") * 2)
        self.check([-2], 4096, "+ |\n", ">" + "\u20ac" * 4096 + "\n")
        self.check([-5], 0, "+ |\n", ">" + "\u20ac" * 4097 + "\n")

    def test_bytes_of_rules(self):
        self.check_segment(0, 0, 3, "a b", 0, full_text(65536), ">a b\n")
        self.check([-6], 0, full_text(65537), ">a b\n")

    def test_as_much_as_may_be(self):
        document = (">" + "a" * 4096 + "\n") * 26 + ">" + "a" * 3450 + "\n"
        self.assertEqual(len(document), 110000)
        self.check_segment(26, 3449, 3450, "a", 109945, "+ |\n", document)
        self.check([-2], 109946, "+ |\n", document)


class Refusals(RefusedDocuments, NthCase):
    def refuses(self, answer, rules_text, document):
        # Whether there is such a segment is asked last.
        for number in (0, HIGHEST):
            self.check(answer[:1], number, rules_text, document)


class OneCallByItself(NthCase):
    def test_nothing_is_kept(self):
        asked = [(1, "+ |\n", "|\n>ab\n", [0, 1, 1, 2, 1, 98]), (1, "", "|\n>ab\n", [-2]),
                 (0, "", ">a\n", [0, 0, 0, 1, 1, 97]), (0, "x", ">a\n", [-5]), (0, "", "x", [-5]),
                 (0, "", "", [-2]), (0, "+ |\n" * 257, ">a\n", [-6]),
                 (1, "%0 98-98\n+ %0 |\n", ">abc\n", [0, 0, 2, 3, 1, 99]), (0, "", "|a\n|b\n>c\n", [0, 2, 0, 1, 1, 99])]
        for number, rules_text, document, answer in asked + asked[::-1] + asked:
            self.check(answer, number, rules_text, document)


class AgainstTheDefinition(NthCase):
    """Small rules and documents, compared with what the document's words say when followed one by one."""

    def test_small_rules_and_documents(self):
        source = random.Random(20261128)
        for turn in range(200):
            classes, rules = small_rules(source)
            document = small_document(source)
            rules_text, text = write_rules(classes, rules), write_document(document)
            found = [(number, first, behind, write_row(pieces))
                     for number, line in enumerate(document) if not isinstance(line, str)
                     for first, behind, pieces in segments(line, classes, rules)]
            with self.subTest(rules=rules_text, document=text):
                self.check_all(found, rules_text, text)

    def test_segments_are_the_paragraphs_own(self):
        # What seg answers of each paragraph by itself, its line's number behind the 0.
        source = random.Random(20261129)
        for turn in range(100):
            rules_text = utf8(write_rules(*small_rules(source)))
            text = write_document(small_document(source))
            found = []
            for number, line in enumerate(text.split("\n")):
                if line[:1] == ">":
                    found.extend([0, number] + answer[1:] for answer in all_answers(seg, rules_text, utf8(line[1:])))
            with self.subTest(rules=bytes(rules_text), document=text):
                self.assertEqual(segs(rules_text, utf8(text))[1], len(found))
                self.assertEqual(all_answers(nth, rules_text, utf8(text)), found)


if __name__ == "__main__":
    unittest.main()
