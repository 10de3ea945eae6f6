"""The call glue: what stands before, between or behind a paragraph's segments, or why it is refused."""

import random
import unittest

from helper import (HIGHEST, Asking, RefusedPairs, full_text, is_tag, marked_parts, pieces_of, segments, small_row,
                    small_rules, utf8, write_row, write_rules)
from segmentrules.segments import count, glue

SENTENCES = '%0 65-90\n- "z." | " B."\n+ "." | " " %0\n+ "!" | " "\n'


class GlueCase(Asking):
    """Tests of glue."""

    def check(self, expected, number, rules_text, row_text):
        self.check_call(expected, glue, number, rules_text, row_text)

    def check_all(self, texts, rules_text, row_text):
        """That these are all the glues' texts."""
        for number, text in enumerate(texts):
            data = utf8(text)
            self.check([0, len(data)] + data, number, rules_text, row_text)
        for number in (len(texts), len(texts) + 1, HIGHEST - 1, HIGHEST):
            self.check([-2], number, rules_text, row_text)

    def check_marked(self, rules_text, table):
        """Rows in which each segment stands between < and >."""
        for marked in table:
            with self.subTest(rules=rules_text, row=marked):
                parts = marked_parts(marked)
                self.check_all(parts[::2], rules_text, "".join(parts))


class Ordinary(GlueCase):
    def test_numbers_as_they_are_answered(self):
        row = " One.  {+1}Two{-1} "
        self.check([0, 1, 32], 0, SENTENCES, " One. Two ")
        self.check([0, 1, 32], 1, SENTENCES, " One. Two ")
        self.check([0, 0], 0, SENTENCES, "One.")
        self.check([0, 2, 32, 32], 1, '+ "." | " "\n', row)
        self.check([0, 1, 32], 2, '+ "." | " "\n', row)
        self.check([-2], 3, '+ "." | " "\n', row)
        self.check([0, 6, 32, 123, 46, 55, 125, 32], 0, "", " {.7} ")

    def test_no_segment(self):
        for rules_text in ("", "+ |\n", "- |\n"):
            self.check_marked(rules_text, ["", " ", "   ", "{.1}", "{+1}{-1}", " {+1} {-1} ", " {.1} {.2} {.999}"])

    def test_one_segment(self):
        for rules_text in ("", "- |\n", '+ "x" |\n'):
            self.check_marked(rules_text, [
                "<a>", " <a>", "<a> ", "  <a b>   ", "<a. B>", " <{.1}a>", "<{+1} a {-1}>", " <{+1} a {-1}> ", "<{{>",
                "<a {.1}>  ",
            ])

    def test_several_segments(self):
        self.check_marked(SENTENCES, [
            "<One.> <Two.> <Three.>", "  <One two.> <Three.> ", "<One.> <{+1}Two{-1}.> <Three>",
            "<Stop!> <Go z. B. now.>", "<One.  two.>", "<{+1}One.{-1}> <Two.{.2}> <Three.> ",
        ])

    def test_all_glue_empty(self):
        self.check_marked("+ |\n", ["<a>", "<a><b>", "<a><b><c><d>", "<{.1}a{.2}><{+3}b><c{-3}{.4}>"])

    def test_each_glue_another(self):
        self.check_marked('+ "." |\n', ["<a.> <b.>  <c.>   <d.>    <e>     ", "     <a.>    <b.>   <c.>  <d.> <e>"])


class Together(GlueCase):
    def test_blanks_of_both_neighbours(self):
        # A cut amid the blanks: what the first segment ends with and what the second one begins with is one glue.
        self.check_marked('+ " " | " "\n', ["<a>  <b>", " <a>  <b>  <c> "])
        self.check_marked('+ ". " | " "\n', ["<a.>   <b>", "<a.>  <b.>    <c>", "<a. b>"])

    def test_stretches_of_blanks_alone(self):
        self.check_marked("+ |\n", ["<a> <b>", "<a>  <b>", "  <a>    <b> <c>   ", "     "])
        self.check_marked('+ "." |\n+ | "b"\n', ["<a.> <b>", "<a.>   <b>", " <b> <b>"])

    def test_stretches_of_blanks_and_tags_alone(self):
        self.check_marked('+ "." |\n+ | "b"\n', [
            "<a.> {.1} <b>", "<a.>{+1} {-1}<b>", "<a.>{+1} <b{-1}>", "<a.{.1}> {.2}<b>", " {.1} <b>", " {+1} {-1}<b>",
            "<{+1}a.{-1}> {.2} {.3}<{+4}b{-4}>", " {.1}<{+2}b{-2}>",
        ])
        self.check_marked("+ |\n", ["{+1} {-1} {.2}", "<{.1}a{.2}> {.3}", "<a>{+1} {-1}<b>", " {.1} {.2} ", "{.1} <a>"])

    def test_several_stretches_between_two_segments(self):
        self.check_marked('+ " " |\n+ | " "\n', [
            "<a> {.1} {.2} <b>", "<a> {+1} {-1} <{+2}b{-2}>", "{.1} {.2} <a>", "<a{.1}> {.2} {.3}",
            "<a> {+1} {+2} <b{-2}{-1}>",
        ])

    def test_blanks_beside_a_stretch_without_a_segment(self):
        self.check_marked('%0 98-98\n+ ". " | " "\n+ " " | %0\n', ["<a.>  {.1} <b>", "<a.>   {.1} {.2} <b>  "])
        self.check_marked('+ "." | " {"\n', ["<a.> <{{ b>"])

    def test_before_the_first_and_behind_the_last(self):
        self.check_marked('+ " " | "b"\n+ "b" |\n', [" {.1} <b> {.2} ", "{+1} {.2} <b> {-1}", "  <a>  <b>  "])


class Tags(GlueCase):
    def test_tags_of_a_segments_own(self):
        # Blanks are glue up to the first other piece, which a tag is.
        self.check_marked('+ "." |\n', [
            "<a.> <{.1}b>", "<a.>  <{.1} b>", "<a.{.1}>  <{.2} b>", "<a.> <{+1} b {-1}>", "<{+1}a.> <b {-1}> ",
            "<a.> <b {.1} {.2}>  ",
        ])
        self.check_marked('+ | "b"\n', ["<a {.1}> <b>", "<a {.1}><b>", " <{.1} a {.2}>  <b>", "<a> <{+1}b{-1}>"])

    def test_each_kind_of_tag_and_number(self):
        for tags in ("{.1}", "{.9}", "{.10}", "{.99}", "{.100}", "{.999}", "{+7}{-7}", "{+999}{.2}{-999}"):
            self.check_all([" " + tags + " ", ""], '+ " " | "a"\n', " " + tags + " a")
            self.check_all([" " + tags + " "], "", " " + tags + " ")

    def test_every_tag(self):
        alone = "".join("{.%d}" % number for number in range(1, 1000))
        self.check_all([alone], "", alone)
        self.check_all(["", " " + alone], "+ |\n", "a " + alone)
        opened = "".join("{+%d}" % number for number in range(1, 1000))
        closed = "".join("{-%d}" % number for number in range(999, 0, -1))
        self.check_all([opened + " " + closed, ""], "+ |\n", opened + " " + closed + "a")

    def test_characters_beside_glue(self):
        self.check_marked("+ |\n", ["<\u00e4> <\u20ac>  <\U0001d11e>", " <{{>  <{{> ", "<\u00a0> <\u3000> <\u200b>"])


class Numbers(GlueCase):
    def test_the_first_and_the_last(self):
        row = " a.  b.   c    "
        for number, blanks in enumerate((1, 2, 3, 4)):
            self.check([0, blanks] + [32] * blanks, number, '+ "." |\n', row)
        for number in (4, 5, HIGHEST - 1, HIGHEST):
            self.check([-2], number, '+ "." |\n', row)

    def test_the_empty_row(self):
        for rules_text in ("", "+ |\n", "- |\n"):
            self.check([0, 0], 0, rules_text, "")
            for number in (1, 2, HIGHEST):
                self.check([-2], number, rules_text, "")


class Bounds(GlueCase):
    def test_pieces(self):
        self.check([0, 4096] + [32] * 4096, 0, "+ |\n", " " * 4096)
        self.check([-6], 0, "+ |\n", " " * 4097)
        self.check([0, 4095] + [32] * 4095, 1, "", "a" + " " * 4095)
        self.check([-6], 1, "", "a" + " " * 4096)

    def test_as_many_segments_as_may_be(self):
        row = "\u20ac" * 4096
        for number in (0, 1, 4095, 4096):
            self.check([0, 0], number, "+ |\n", row)
        self.check([-2], 4097, "+ |\n", row)
        row = "a " * 2048
        for number in (1, 2047, 2048):
            self.check([0, 1, 32], number, "+ |\n", row)
        self.check([-2], 2049, "+ |\n", row)

    def test_bytes_of_rules(self):
        self.check([0, 1, 32], 0, full_text(65536), " a b")
        self.check([-6], 0, full_text(65537), " a b")

    def test_bytes_of_a_row(self):
        # So long a row has too many pieces at any rate: the first refusal is seen where it is a fault, too.
        self.check([-5], 0, "", "a" * 65535 + "{")
        self.check([-6], 0, "", "a" * 65536 + "{")
        self.check([-6], 0, "", "a" * 65600)


class Refusals(RefusedPairs, GlueCase):
    def refuses(self, answer, rules_text, row_text):
        # Whether there is such a glue is asked last.
        for number in (0, 1, HIGHEST):
            self.check(answer[:1], number, rules_text, row_text)


class OneCallByItself(GlueCase):
    def test_nothing_is_kept(self):
        asked = [(1, "+ |\n", "a b", [0, 1, 32]), (1, "", "a b", [0, 0]), (0, "", " a b", [0, 1, 32]),
                 (0, "x", "ab", [-5]), (2, "+ |\n", "a b", [0, 0]), (2, "", "a b", [-2]), (0, "+ |\n", "{+1}", [-5]),
                 (1, "%0 98-98\n+ | %0\n", "a  b", [0, 2, 32, 32]), (1, "%0 97-97\n+ | %0\n", "a  b", [0, 0])]
        for number, rules_text, row, answer in asked + asked[::-1] + asked:
            self.check(answer, number, rules_text, row)


class AgainstTheDefinition(GlueCase):
    """Small rules and rows, compared with what the document's words say when followed one by one."""

    def test_small_rules_and_rows(self):
        source = random.Random(20261124)
        for turn in range(400):
            classes, rules = small_rules(source)
            row = small_row(source)
            rules_text, row_text = write_rules(classes, rules), write_row(row)
            places = [0]
            for first, behind, pieces in segments(row, classes, rules):
                places.extend([first, behind])
            places.append(len(row))
            with self.subTest(rules=rules_text, row=row_text):
                texts = [write_row(row[places[turn]:places[turn + 1]]) for turn in range(0, len(places), 2)]
                self.check_all(texts, rules_text, row_text)

    def test_blanks_and_tags_alone(self):
        source = random.Random(20261125)
        for turn in range(200):
            rules_text, row_text = write_rules(*small_rules(source)), write_row(small_row(source))
            segments_counted = count(utf8(rules_text), utf8(row_text))[0]
            for number in range(segments_counted + 1):
                answer = glue(number, utf8(rules_text), utf8(row_text))
                pieces = pieces_of(bytes(answer[2:]).decode("utf-8"))
                self.assertTrue(all(piece == " " or is_tag(piece) for piece in pieces), pieces)


if __name__ == "__main__":
    unittest.main()
