"""The call seg: a segment of a paragraph, where it stands and its text, or why it is refused."""

import random
import unittest

from helper import (HIGHEST, Asking, RefusedPairs, all_answers, full_text, is_tag, marked_parts, pieces_of, segments,
                    small_row, small_rules, utf8, write_row, write_rules)
from segmentrules.segments import count, seg

SENTENCES = '%0 65-90\n- "z." | " B."\n+ ".*?" |\n+ "." | " " %0\n+ "!" | " "\n'


class SegCase(Asking):
    """Tests of seg."""

    def check(self, expected, number, rules_text, row_text):
        self.check_call(expected, seg, number, rules_text, row_text)

    def check_segment(self, first, behind, text, number, rules_text, row_text):
        data = utf8(text)
        self.check([0, first, behind, len(data)] + data, number, rules_text, row_text)

    def check_marked(self, rules_text, table):
        """Rows in which each segment stands between < and >."""
        for marked in table:
            found = marked_parts(marked)
            row_text = "".join(found)
            with self.subTest(rules=rules_text, row=marked):
                place = 0
                for turn, part in enumerate(found):
                    behind = place + len(pieces_of(part))
                    if turn % 2 == 1:
                        self.check_segment(place, behind, part, turn // 2, rules_text, row_text)
                    place = behind
                for number in (len(found) // 2, len(found) // 2 + 1, HIGHEST):
                    self.check([-2], number, rules_text, row_text)


class Ordinary(SegCase):
    def test_numbers_as_they_are_answered(self):
        row = " One. {+1}Two{-1}."
        self.check([0, 1, 5, 4, 79, 110, 101, 46], 0, SENTENCES, row)
        self.check([-2], 1, '+ "x" |\n', row)
        self.check([0, 6, 12, 12, 123, 43, 49, 125, 84, 119, 111, 123, 45, 49, 125, 46], 1, SENTENCES, row)
        self.check([-2], 2, SENTENCES, row)

    def test_no_rules_at_all(self):
        self.check_marked("", [
            "", " ", "   ", "<a>", " <a> ", "<abc def. Ghi.>", "  <abc def>   ", "<{{>", "<}>", " <a b>",
            "{+1}{-1}", "{.1}", " {+1} {-1} ", " <{+1} a{-1}> ", "<{.1}a>", "<a{.1}>",
        ])

    def test_sentences(self):
        self.check_marked(SENTENCES, [
            "<One.> <Two.> <Three.>", "<One. two.> <Three.>", "<Stop!> <Go z. B. now.> <There.>", "<This is one>",
            "<One.Two>", "<One.  Two>", " <One.> <{+1}Two{-1}.> <Three> ", "<{+1}One.{-1}> <Two.{.2}> <Three.>",
            "<.*?><.*?><a>",
        ])

    def test_rules_that_keep(self):
        self.check_marked("- |\n", ["<a. b. c>", "<a>", " <a b>", ""])
        self.check_marked('- "a" |\n+ |\n', ["<ab><c>", "<b><ac>", "<aaa>", "<b><a> ", "<a> <b><b> <b>"])

    def test_every_place(self):
        self.check_marked("+ |\n", ["", "<a>", "<a><b>", "<a><b><c><d>", "<a> <b> <c>", " <a> ", "  <a>  <b>  "])

    def test_a_place_where_no_rule_says_anything(self):
        self.check_marked('+ "." | "."\n', ["<a.b>", "<a.><.b>", "<a.><.><.b>"])


class CutBesideTags(SegCase):
    RULES = '+ "." | "b"\n'

    def test_an_open_tag(self):
        self.check_marked(self.RULES, ["<a.><{+1}b{-1}>", "<{+1}a.><b{-1}>", "<{+1}a.><{+2}b{-2}{-1}>"])

    def test_a_close_tag(self):
        self.check_marked(self.RULES, ["<{+1}a.{-1}><b>", "<{+1}a{-1}.><b>", "<{+1}{+2}a.{-2}{-1}><b>"])

    def test_an_alone_tag(self):
        self.check_marked(self.RULES, ["<a.{.1}><b>", "<a.{.1}{.2}><b>", "<a{.1}.{.2}><b{.3}>", "<{.1}.{.2}><b>"])

    def test_several_tags(self):
        self.check_marked(self.RULES, [
            "<{+1}a.{-1}{.2}><{+3}b{-3}>", "<a.{.1}><{+2}{.3}b{-2}>", "<a.><{+1}{-1}b>", "<a.><{+1}{.2}{-1}{.3}b>",
            "<a.><{+1}{+2}b{-2}{-1}>", "<{+1}a.{-1}><{+2}{-2}b>", "<{+1}a.{.2}{-1}{.3}><{+4}{.5}{-4}{.6}{+7}b{-7}>",
            "<{+1}{+2}a.{-2}><{+3}{-3}b{-1}>", "<{+1}a.{.9}{-1}{.8}><b>",
        ])

    def test_only_tags_beside_the_cut(self):
        # What stands in front of the character before the cut, or behind the one after it, has no part in it.
        self.check_marked(self.RULES, ["<a{+1}.><b{-1}>", "<a{+1}.{-1}><b>", "<{+1}a{-1}.><b{+2}{-2}>", "<a.><b{.1}>"])

    def test_no_cut_no_side(self):
        self.check_marked(self.RULES, ["<a.{+1}c{-1}>", "<a{.1}b>", "<{+1}a.{-1}c>", "<a.{+1} {-1}b>"])

    def test_several_cuts(self):
        self.check_marked("+ |\n", [
            "<{+1}a><b><c{-1}>", "<{+1}a{-1}><{+2}b{-2}><c>", "<{.1}a{.2}><{+3}b><c{-3}{.4}>", "<a><{+1}{-1}b{.2}><c>",
            "<{+1}{+2}a{-2}><b{-1}>",
        ])

    def test_tags_at_the_rows_ends(self):
        self.check_marked("+ |\n", ["<{.1}{+2}a{-2}{.3}>", "<{+1}{-1}a><b{+2}{-2}>", "<{.1}a{+2}{-2}>"])

    def test_a_stretch_of_its_own_for_each_cut(self):
        self.check_marked('+ "a" |\n', ["<a><a><a>", "<a><{+1}a{-1}><a{.2}><{+3}a{-3}>"])


class Glue(SegCase):
    def test_blanks_between_segments(self):
        self.check_marked('+ "." |\n', ["<a.> <b>", "<a.>   <b>", "<a.><b>", " <a.> <b.> <c> ", "<.> <.>", " <.> "])
        self.check_marked('+ | "b"\n', ["<a> <b>", "<a>   <b>", "<a><b>", " <b>", "  <b> <b>  "])

    def test_blanks_up_to_the_first_other_piece(self):
        self.check_marked('+ "." |\n', [
            "<a.> <{.1}b>", "<a.>  <{.1} b>", "<a.> <{.1}  b>", "<a.{.1}> <b>", "<a.{.1}>  <{.2} b>",
            "<a.> <{+1} b {-1}>", "<a.><{+1} b{-1}>", "<{+1}a.> <b {-1}> ", "<a.> <b {.1}> ", "<a.> <b {.1} {.2}>  ",
        ])
        self.check_marked('+ | "b"\n', [
            "<a {.1}> <b>", "<a {.1}><b>", "<a{.1}>  <b>", " <{.1} a {.2}>  <b>", "<a{.1} {.2}><b>", "<a> <{+1}b{-1}>",
            "<a {+1}> <b{-1}>", "<a {+1} {-1}> <b>", "<a {+1} {-1}><b>",
        ])

    def test_blanks_at_the_rows_ends(self):
        self.check_marked("", [
            " <a>", "<a> ", "   <a>   ", " <{.1} a>", "<a {.1}> ", " <{+1} a {-1}> ", "<{.1} a {.2}>",
        ])

    def test_a_stretch_of_blanks_and_tags_alone(self):
        self.check_marked('+ "." |\n+ | "b"\n', [
            "<a.> {.1} <b>", "<a.>{+1} {-1}<b>", "<a.>{+1} <b{-1}>", "<a.{.1}> {.2}<b>", "<a.> <{+1}b{-1}>",
            "<{+1}a.{-1}> {.2} {.3}<{+4}b{-4}>", " {.1} <b>", " {+1} {-1}<b>",
        ])

    def test_stretches_of_blanks_and_tags_side_by_side(self):
        self.check_marked('+ " " |\n+ | " "\n', [
            "    ", "<a>   <b>", " <a>", "<a> ", " {.1} {.2} ", "<a> {.1} {.2} <b>", "<a> {+1} {-1} <{+2}b{-2}>",
            "{.1} {.2} <a>", "<a{.1}> {.2} {.3}",
        ])
        self.check_marked("+ |\n", ["{+1} {-1} {.2}", "<{.1}a{.2}> {.3}", "<a>{+1} {-1}<b>"])

    def test_no_stretch_without_a_character(self):
        self.check_marked("+ |\n", ["", "{.1}", "{+1}{-1}", "{.1}{+2}{.3}{-2}"])

    def test_only_20h_is_a_blank(self):
        self.check_marked("", ["<\u00a0>", "<\u3000a\u2003>", " <\u00a0 a \u2028> ", "<\u200b>", "<\ufeff>"])


class Text(SegCase):
    def test_characters_of_one_to_four_bytes(self):
        for character, size in (("a", 1), ("~", 1), ("\u00a0", 2), ("\u00e4", 2), ("\u07ff", 2), ("\u0800", 3),
                                ("\u20ac", 3), ("\ufffd", 3), ("\U00010000", 4), ("\U0001d11e", 4), ("\U0010fffd", 4)):
            self.check([0, 1, 2, size] + list(character.encode("utf-8")), 0, "", " " + character + " ")
        self.check_marked("+ |\n", ["<a><\u00e4><\u20ac><\U0001d11e>", " <\U0001d11e{.1}> <\u20ac>"])

    def test_places_are_those_of_pieces(self):
        self.check([0, 4, 5, 1, 97], 1, '+ " " |\n', "\U0001d11e {.999} a")
        self.check([0, 3, 4, 2, 123, 123], 1, '+ " " |\n', "{{{{ {{")
        self.check([0, 0, 2, 4, 123, 123, 123, 123], 0, '+ " " |\n', "{{{{ {{")

    def test_a_brace(self):
        self.check_marked('+ "{" | "{"\n', ["<{{>", "<{{><{{>", "<a{{><{{b>", "<{{a{{>", "<{{}>", "<{{{.1}><{{>"])
        self.check_marked("+ |\n", ["<{{><.><1><}>", "<{{{.1}>", "<}><{{>"])

    def test_each_kind_of_tag(self):
        self.check([0, 0, 2, 5, 97, 123, 46, 55, 125], 0, "", "a{.7}")
        self.check([0, 0, 3, 11, 123, 43, 49, 48, 125, 97, 123, 45, 49, 48, 125], 0, "", "{+10}a{-10}")
        self.check_segment(2, 4, "b{-999}", 1, "+ |\n", "{+999}ab{-999}")
        self.check_segment(0, 2, "{+999}a", 0, "+ |\n", "{+999}ab{-999}")
        self.check_segment(1, 2, "b", 1, '+ "a" |\n', "ab")
        self.check_segment(2, 4, "b{.100}", 1, '+ "a" |\n', "a{.1}b{.100}")

    def test_every_tag(self):
        alone = "".join("{.%d}" % number for number in range(1, 1000))
        self.check_segment(0, 1001, "a" + alone + "b", 0, "", "a" + alone + "b")
        self.check_segment(0, 1000, "a" + alone, 0, "+ |\n", "a" + alone + "b")
        self.check_segment(1000, 1001, "b", 1, "+ |\n", "a" + alone + "b")
        opened = "".join("{+%d}" % number for number in range(1, 1000))
        closed = "".join("{-%d}" % number for number in range(999, 0, -1))
        self.check_segment(0, 1000, opened + "a", 0, "+ |\n", opened + "ab" + closed)
        self.check_segment(1000, 2000, "b" + closed, 1, "+ |\n", opened + "ab" + closed)


class Numbers(SegCase):
    def test_the_first_and_the_last(self):
        row = "a. b. c"
        self.check_segment(0, 2, "a.", 0, '+ "." |\n', row)
        self.check_segment(3, 5, "b.", 1, '+ "." |\n', row)
        self.check_segment(6, 7, "c", 2, '+ "." |\n', row)
        self.check([-2], 3, '+ "." |\n', row)
        self.check([-2], 4, '+ "." |\n', row)
        self.check([-2], HIGHEST, '+ "." |\n', row)

    def test_without_a_segment(self):
        for row in ("", " ", "{.1}", " {+1} {-1} "):
            for rules_text in ("", "+ |\n"):
                for number in (0, 1, HIGHEST - 1, HIGHEST):
                    self.check([-2], number, rules_text, row)

    def test_a_segment_at_the_beginning_and_at_the_end(self):
        self.check_segment(0, 1, "a", 0, "+ |\n", "a  b")
        self.check_segment(3, 4, "b", 1, "+ |\n", "a  b")
        self.check_segment(0, 4, "a  b", 0, "", "a  b")


class Bounds(SegCase):
    def test_pieces(self):
        self.check_segment(0, 4096, "a" * 4096, 0, "", "a" * 4096)
        self.check([-6], 0, "", "a" * 4097)
        self.check_segment(0, 4096, "\U0001d11e" * 4096, 0, "", "\U0001d11e" * 4096)
        self.check_segment(0, 4096, "{{" * 4096, 0, "", "{{" * 4096)
        self.check([-6], 0, "", "{{" * 4097)
        row = "{+1}" + "a" * 4094 + "{-1}"
        self.check_segment(0, 2, "{+1}a", 0, "+ |\n", row)
        self.check_segment(4094, 4096, "a{-1}", 4093, "+ |\n", row)
        self.check([-2], 4094, "+ |\n", row)
        self.check([-6], 0, "+ |\n", "{+1}" + "a" * 4095 + "{-1}")

    def test_as_many_segments_as_may_be(self):
        for number in (0, 1, 2047, 4095):
            self.check_segment(number, number + 1, "\u20ac", number, "+ |\n", "\u20ac" * 4096)
        self.check([-2], 4096, "+ |\n", "\u20ac" * 4096)

    def test_blanks_alone(self):
        self.check([-2], 0, "+ |\n", " " * 4096)
        self.check([-6], 0, "+ |\n", " " * 4097)
        self.check_segment(2048, 2049, "a", 0, "", " " * 2048 + "a" + " " * 2047)

    def test_bytes_of_rules(self):
        self.check_segment(0, 3, "a b", 0, full_text(65536), "a b")
        self.check([-6], 0, full_text(65537), "a b")

    def test_bytes_of_a_row(self):
        # So long a row has too many pieces at any rate: the first refusal is seen where it is a fault, too.
        self.check([-5], 0, "", "a" * 65535 + "{")
        self.check([-6], 0, "", "a" * 65536 + "{")

    def test_rules(self):
        self.check_segment(1, 2, "b", 1, '- "x" |\n' * 255 + "+ |\n", "ab")
        self.check([-6], 1, '- "x" |\n' * 256 + "+ |\n", "ab")

    def test_ranges(self):
        ranges = "".join(f" {2 * low}-{2 * low}" for low in range(256))
        self.check_segment(1, 2, "b", 1, f"%5{ranges}\n+ | %5\n", "ab")
        self.check([-6], 1, f"%5{ranges} 512-512\n+ | %5\n", "ab")

    def test_items(self):
        self.check_segment(16, 32, "a" * 16, 1, "+ ^ " + ". " * 16 + "|" + " ." * 16 + " $\n", "a" * 32)
        self.check([-6], 1, "+ ^ " + ". " * 17 + "|" + " ." * 15 + " $\n", "a" * 32)
        self.check([-6], 1, "+ ^ " + ". " * 15 + "|" + " ." * 17 + " $\n", "a" * 32)

    def test_characters_of_an_atom(self):
        self.check_segment(32, 33, "b", 1, '+ "' + "a" * 32 + '" |\n', "a" * 32 + "b")
        self.check([-6], 1, '+ "' + "a" * 33 + '" |\n', "a" * 33 + "b")


class Refusals(RefusedPairs, SegCase):
    def refuses(self, answer, rules_text, row_text):
        # Whether there is such a segment is asked last.
        for number in (0, 1, HIGHEST):
            self.check(answer[:1], number, rules_text, row_text)


class OneCallByItself(SegCase):
    def test_nothing_is_kept(self):
        asked = [(1, "+ |\n", "ab", [0, 1, 2, 1, 98]), (1, "", "ab", [-2]), (0, "", "ab", [0, 0, 2, 2, 97, 98]),
                 (0, "x", "ab", [-5]), (0, "%0 97-97\n+ %0 |\n", "abc", [0, 0, 1, 1, 97]), (0, "+ |\n", "{+1}", [-5]),
                 (1, "%0 98-98\n+ %0 |\n", "abc", [0, 2, 3, 1, 99]), (0, "", "{{", [0, 0, 1, 2, 123, 123])]
        for number, rules_text, row, answer in asked + asked[::-1] + asked:
            self.check(answer, number, rules_text, row)


class AgainstTheDefinition(SegCase):
    """Small rules and rows, compared with what the document's words say when followed one by one."""

    def test_small_rules_and_rows(self):
        source = random.Random(20261122)
        for turn in range(400):
            classes, rules = small_rules(source)
            row = small_row(source)
            rules_text, row_text = write_rules(classes, rules), write_row(row)
            with self.subTest(rules=rules_text, row=row_text):
                found = segments(row, classes, rules)
                for number, (first, behind, pieces) in enumerate(found):
                    self.check_segment(first, behind, write_row(pieces), number, rules_text, row_text)
                for number in (len(found), HIGHEST):
                    self.check([-2], number, rules_text, row_text)


class Promised(SegCase):
    """What B2 promises of any rules and rows."""

    def test_put_together_it_is_the_paragraph(self):
        source = random.Random(20261123)
        for turn in range(200):
            rules_text, row_text = write_rules(*small_rules(source)), write_row(small_row(source))
            with self.subTest(rules=rules_text, row=row_text):
                pieces = pieces_of(row_text)
                found = all_answers(seg, utf8(rules_text), utf8(row_text))
                self.assertEqual(count(utf8(rules_text), utf8(row_text)), [len(found)])
                last = 0
                for answer in found:
                    first, behind = answer[1:3]
                    self.assertLessEqual(last, first)
                    self.assertLess(first, behind)
                    self.check_between(pieces[last:first])
                    self.check_within(pieces[first:behind])
                    self.assertEqual(answer[3:], [len(answer) - 4] + utf8("".join(pieces[first:behind])))
                    last = behind
                self.check_between(pieces[last:])

    def check_between(self, pieces):
        """Between segments there are only blanks and tags."""
        self.assertTrue(all(piece == " " or is_tag(piece) for piece in pieces), pieces)

    def check_within(self, pieces):
        """A segment neither begins nor ends with a blank, and has some other character."""
        self.assertNotIn(" ", (pieces[0], pieces[-1]))
        self.assertTrue(any(piece != " " and not is_tag(piece) for piece in pieces), pieces)


if __name__ == "__main__":
    unittest.main()
