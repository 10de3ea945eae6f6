"""The call count: how many segments rules make of a paragraph, or why it is refused."""

import random
import unittest

from helper import (Asking, RefusedPairs, full_text, segments, small_row, small_rules, utf8, write_row,
                    write_rules)
from segmentrules.segments import count

SENTENCES = '%0 65-90\n- "z." | " B."\n+ ".*?" |\n+ "." | " " %0\n+ "!" | " "\n'


class CountCase(Asking):
    """Tests of count."""

    def check(self, expected, rules_text, row_text):
        self.check_call(expected, count, rules_text, row_text)

    def check_rows(self, rules_text, table):
        """A table of rows and how many segments these rules make of each."""
        for row_text, number in table:
            with self.subTest(rules=rules_text, row=row_text):
                self.check([number], rules_text, row_text)

    def check_rules(self, row_text, table):
        """A table of rules and how many segments they make of this row."""
        for rules_text, number in table:
            with self.subTest(rules=rules_text, row=row_text):
                self.check([number], rules_text, row_text)

    def check_refused(self, rows):
        """Rows that are no paragraph's."""
        for row_text in rows:
            with self.subTest(row=row_text):
                self.check([-5], "", row_text)


class Ordinary(CountCase):
    def test_no_rules_at_all(self):
        self.check_rows("", [
            ("", 0), (" ", 0), ("   ", 0), ("a", 1), ("abc def. Ghi.", 1), (" a ", 1), ("{{", 1), ("}", 1),
            ("{+1}{-1}", 0), ("{.1}", 0), (" {+1} {-1} ", 0), (" {+1} a{-1} ", 1),
        ])

    def test_sentences(self):
        self.check_rows(SENTENCES, [
            ("One. Two. Three.", 3),
            ("One. two. Three.", 2),
            ("Stop! Go z. B. now. There.", 3),
            ("This is one", 1),
            ("One.Two", 1),
            ("One.  Two", 1),
            ("One. {+1}Two{-1}. Three", 3),
            ("{+1}One.{-1} Two.{.2} Three.", 3),
        ])

    def test_rules_that_keep_alone(self):
        self.check_rows("- |\n- . | .\n", [("a. b. c", 1), ("", 0), ("  ", 0)])

    def test_every_place(self):
        self.check_rows("+ |\n", [("", 0), ("a", 1), ("ab", 2), ("abcde", 5), ("a b c", 3), ("   ", 0), (" a ", 1)])

    def test_the_first_rule_that_says_something_decides(self):
        cuts, keeps = '+ "a" |\n', '- | "b"\n'
        self.check_rules("ab", [(cuts, 2), (keeps, 1), (cuts + keeps, 2), (keeps + cuts, 1)])
        self.check_rules("abac", [(cuts, 3), (keeps, 1), (cuts + keeps, 3), (keeps + cuts, 2)])
        self.check_rules("ab", [("- |\n+ |\n", 1), ("+ |\n- |\n", 2), ("- |\n- |\n+ |\n", 1), ("+ |\n+ |\n- |\n", 2)])
        self.check_rules("abcd", [
            ('- "a" |\n+ "b" |\n+ |\n', 3), ('+ "c" |\n- |\n', 2), ('- "x" |\n+ |\n', 4), ('+ "x" |\n- |\n', 1),
            ('- | "b"\n- | "c"\n+ |\n', 2), ('+ | "b"\n- | "c"\n+ |\n', 3), ('- "b" |\n+ "b" | "c"\n+ "c" |\n', 2),
        ])

    def test_a_place_where_no_rule_says_anything(self):
        self.check_rows('+ "." | "."\n', [("a.b", 1), ("a..b", 2), ("a...b", 3)])

    def test_blanks_at_the_ends_of_a_stretch(self):
        self.check_rows('+ "." |\n', [(" a. b ", 2), ("  a  .  b  ", 2), ("a. ", 1), (" . ", 1), (". .", 2)])

    def test_a_stretch_of_blanks_alone(self):
        self.check_rows('+ "." |\n+ | "b"\n', [
            ("a. b", 2), ("a.   b", 2), ("a.b", 2), ("a. {.1} b", 2), ("a.{+1} {-1}b", 2), (" b", 1), ("b ", 1),
            ("b b b", 3), (". . b .", 3),
        ])
        self.check_rows('+ " " |\n+ | " "\n', [("    ", 0), ("a   b", 2), (" a", 1), ("a ", 1), (" {.1} {.2} ", 0)])

    def test_only_20h_is_a_blank(self):
        self.check_rows("", [("\u00a0", 1), ("\u3000", 1), ("\u2003", 1), ("\u200b", 1), ("\ufeff", 1)])
        self.check_rows("+ |\n", [("\u00a0 \u3000", 2), (" \u2028 ", 1)])

    def test_a_brace_is_one_character(self):
        self.check_rows('+ "{" | "{"\n', [("{{", 1), ("{{{{", 2), ("{{{{{{", 3), ("{{a{{", 1)])
        self.check_rows("+ |\n", [("{{", 1), ("{{.1}", 4), ("{{{.1}", 1), ("{{}}", 3), ("}{{", 2)])

    def test_a_cut_beside_tags(self):
        self.check_rows('+ "." | "b"\n', [
            ("a.b", 2), ("a.{+1}b{-1}", 2), ("{+1}a.{-1}b", 2), ("{+1}a.b{-1}", 2), ("a.{.1}b", 2),
            ("{+1}a.{-1}{.2}{+3}{.4}b{-3}", 2), ("a.{+1}{-1}b", 2), ("a{.1}.{.2}b{.3}", 2), ("{.1}.{.2}b", 2),
            ("a.{+1} {-1}b", 1), ("{+1}{+2}a.{-2}{-1}b", 2), ("a.{+2}{+1}b{-1}{-2}", 2),
        ])
        self.check_rows("+ |\n", [("{+1} {-1} {.2}", 0), ("{.1}a{.2} {.3}", 1), ("{+1}a{-1}{+2}b{-2}", 2)])

    def test_tags_are_no_characters(self):
        self.check_rows('+ "ab" |\n+ | "+"\n+ "1" |\n', [("a{.1}bc", 2), ("{+1}c{-1}c", 1), ("a{+1}b{-1}c", 2)])
        self.check_rows('+ ^ . | . $\n', [("{.1}a{.2}b{.3}", 2), ("{.1}ab{.2}c", 1)])


class Matching(CountCase):
    """What the items of a rule match, by the cuts that they make."""

    def test_any_character(self):
        self.check_rows("+ . . | .\n", [("a", 1), ("ab", 1), ("abc", 2), ("abcd", 3), ("\u00e4\U0001d11e\u20acz", 3)])

    def test_a_class(self):
        self.check_rows("%3 98-99 101-101 228-8364\n+ %3 |\n", [
            ("axx", 1), ("bxx", 2), ("cxx", 2), ("dxx", 1), ("exx", 2), ("fxx", 1), ("\u00e4x", 2), ("\u00e3x", 1),
            ("\u20acx", 2), ("\u20adx", 1), ("\u00fcx", 2), ("bbb", 3),
        ])

    def test_every_range_of_a_class(self):
        ranges = "".join(f" {4 * low + 400}-{4 * low + 401}" for low in range(256))
        inside = "".join(chr(4 * low + 400) + chr(4 * low + 401) for low in range(256))
        outside = "".join(chr(4 * low + 399) + chr(4 * low + 402) for low in range(256))
        self.check_rows("%0" + ranges + "\n+ | %0\n", [(inside, 512), (outside, 1)])

    def test_a_class_of_everything(self):
        self.check_rows("%15 0-1114111\n+ %15 | %15\n", [("ab\U0010fffd~", 4)])
        self.check_rows("%15 0-31 55296-57343 65534-65535 1114110-1114111\n+ %15 |\n", [("ab\U0010fffd~", 1)])

    def test_a_quote_by_its_class(self):
        self.check_rows("%0 34-34\n+ %0 |\n", [('"a"b', 3)])

    def test_several_classes(self):
        self.check_rows("%1 97-97\n%2 98-98\n%10 99-99\n%15 100-100\n+ %1 | %10\n+ %2 %10 | %15\n", [
            ("ac", 2), ("ab", 1), ("bcd", 2), ("acd", 2), ("ad", 1),
        ])

    def test_certain_characters(self):
        self.check_rows('+ "ab" | "cd"\n', [("abcd", 2), ("abxd", 1), ("xbcd", 1), ("axcd", 1), ("abcx", 1), ("bc", 1),
                                            ("xabcdx", 2), ("abc", 1), ("bcd", 1), ("abcdabcd", 3)])
        self.check_rows('+ "\u00e4\U0001d11e" |\n', [("\u00e4\U0001d11ex", 2), ("\u00e4x\U0001d11e", 1)])
        self.check_rows('+ "." |\n', [("a.b", 2), ("axb", 1)])
        self.check_rows('+ "%0" | "*1-2"\n', [("%0*1-2", 2)])

    def test_32_certain_characters(self):
        word = "abcdefghijklmnopqrstuvwxyz012345"
        self.check_rows(f'+ "{word}" |\n', [(word + "6", 2), (word[1:] + "6", 1), (word[:-1] + "6", 1)])
        self.check_rows(f'+ | "{word}"\n', [("6" + word, 2), ("6" + word[1:], 1), ("6" + word[:-1], 1)])

    def test_items_in_order(self):
        self.check_rows('%0 48-57\n+ %0 "." | " " %0 "a"\n', [("1. 2a", 2), (".1 2a", 1), ("1. a2", 1), ("1.2 a", 1)])
        self.check_rows('+ "a" "b" |\n', [("abx", 2), ("bax", 1), ("axb", 1), ("bx", 1)])
        self.check_rows('+ | "a" "b"\n', [("xab", 2), ("xba", 1), ("xa", 1)])

    def test_no_items_are_matched_by_no_characters(self):
        self.check_rules("abc", [("+ |\n", 3), ('+ "a" |\n', 2), ('+ | "c"\n', 2), ('- "a" |\n+ |\n', 2)])

    def test_how_often(self):
        for often, least, most in (("", 1, 1), ("*0-0", 0, 0), ("*0-1", 0, 1), ("*1-2", 1, 2), ("*2-3", 2, 3),
                                   ("*3-3", 3, 3)):
            for times in range(6):
                number = 2 if least <= times <= most else 1
                for atom in (".", '"a"', "%0"):
                    self.check_rows(f'%0 97-97\n+ "c" {atom}{often} "b" |\n', [("c" + "a" * times + "bx", number)])
                    self.check_rows(f'%0 97-97\n+ | "b" {atom}{often} "c"\n', [("xb" + "a" * times + "c", number)])

    def test_least_and_most_from_the_beginning(self):
        for least, most in ((0, 0), (0, 3), (1, 2), (2, 2), (3, 5), (9, 10), (0, 32), (31, 32), (32, 32)):
            for size in (1, 2, 3, 4, 5, 6, 10, 31, 32, 33, 34, 40):
                number = 1 + sum(least <= place <= most for place in range(1, size))
                row = "a" * size
                self.check_rules(row, [(f"+ ^ .*{least}-{most} |\n", number), (f"+ | .*{least}-{most} $\n", number),
                                       (f'%0 97-97\n+ ^ %0*{least}-{most} |\n', number),
                                       (f'+ | "a"*{least}-{most} $\n', number)])

    def test_several_characters_several_times(self):
        self.check_rows('+ ^ "ab"*2-3 |\n', [("abx", 1), ("ababx", 2), ("abababx", 3), ("ababababx", 3), ("aabbx", 1)])
        self.check_rows('+ | "ab"*2-3 $\n', [("xab", 1), ("xabab", 2), ("xababab", 3), ("xabababab", 3)])
        self.check_rows('+ ^ "aa"*1-3 |\n', [("aaaaaaaaaa", 4), ("aaaa", 2), ("aaaaa", 3)])

    def test_any_way_of_matching_will_do(self):
        self.check_rows('+ ^ "a"*1-3 "ab" |\n', [("aabx", 2), ("aaabx", 2), ("aaaabx", 2), ("aaaaabx", 1), ("abx", 1)])
        self.check_rows('+ ^ .*0-32 "." |\n', [("a.b.c", 3), ("....", 4)])
        self.check_rows('+ | "b" "a"*0-3 "a" $\n', [("xba", 2), ("xbaaaa", 2), ("xbaaaaa", 1), ("xb", 1)])
        self.check_rows('+ ^ "a"*0-1 "ab"*0-1 "b"*0-1 |\n', [("abb", 3), ("aabb", 3), ("babb", 2), ("bbab", 2)])

    def test_from_the_beginning(self):
        self.check_rows('+ ^ "a" |\n', [("aaa", 2), ("baa", 1), ("a", 1), ("{.1}a{.2}a", 2)])
        self.check_rows('+ "a" |\n', [("aaa", 3), ("baa", 2)])
        self.check_rows('+ ^ "b" |\n', [("b{.1} a", 2), ("{.1}bba", 2), (" ba", 1)])
        self.check_rules("abcd", [("+ ^ . |\n", 2), ("+ ^ . . |\n", 2), ("+ ^ .*0-32 |\n", 4), ("+ ^ .*4-5 |\n", 1)])

    def test_to_the_end(self):
        self.check_rows('+ | "a" $\n', [("aaa", 2), ("aab", 1), ("a", 1), ("a{.1}a{.2}", 2)])
        self.check_rows('+ | "a"\n', [("aaa", 3), ("aab", 2)])
        self.check_rules("abcd", [("+ | . $\n", 2), ("+ | . . $\n", 2), ("+ | .*0-32 $\n", 4), ("+ | .*4-5 $\n", 1)])

    def test_beginning_and_end(self):
        self.check_rows("+ ^ . | . $\n", [("ab", 2), ("a", 1), ("abc", 1)])
        self.check_rows('+ ^ .*0-32 | "b" .*0-32 $\n', [("abab", 3)])

    def test_the_ends_are_no_places(self):
        # Nothing is wanted between a place and an end: that's at place 0, or at the last place's other side.
        self.check_rules("abc", [("+ ^ |\n", 1), ("+ | $\n", 1), ("+ ^ | $\n", 1), ("- ^ |\n+ |\n", 3),
                                 ("- | $\n+ |\n", 3), ("+ ^ .*0-0 |\n", 1), ('+ | "c"*0-0 $\n', 1)])

    def test_nothing_matches_beyond_the_ends(self):
        self.check_rules("ab", [("+ . . |\n", 1), ("+ | . .\n", 1), ('+ "xa" |\n', 1), ('+ | "bx"\n', 1),
                                ('+ "ab" |\n', 1), ('+ | "ab"\n', 1), ("+ .*2-2 |\n", 1), ("+ | .*2-32\n", 1)])


class RowsText(CountCase):
    def test_tags(self):
        self.check_rows("", [("{.1}", 0), ("{.9}{.10}{.99}{.100}{.998}{.999}", 0), ("{+999}a{-999}", 1),
                             ("{+1}a{-1}", 1), ("}", 1), ("+1}", 1), ("{{.1}", 1), ("{{{{", 1), ("{{{.1}", 1)])
        every = "".join("{.%d}" % number for number in range(1, 1000))
        self.check_rows("", [(every, 0), (every + "a", 1)])

    def test_no_rows_text(self):
        self.check_refused([
            "{", "a{", "{}", "{a", "{ ", "{{{", "{{{a}", "{1}", "{*1}", "{/1}", "{+", "{+}", "{+a}", "{-}", "{.}",
            "{+1", "{+1-", "{+1}{-1", "{+1 }{-1}", "{+ 1}{-1}", "{.1", "{.1{", "{.1{{", "{.1.}", "{.+1}", "{.-1}",
            "{.1a}", "{.\u0661}",
        ])

    def test_numbers_of_tags(self):
        self.check_refused([
            "{.0}", "{+0}{-0}", "{.00}", "{.01}", "{.001}", "{+01}{-01}", "{+1}{-01}", "{.1000}", "{.1001}", "{.9990}",
            "{+1000}{-1000}", "{.9999}", "{.10000}", "{.1:}", "{.:}", "{.1/}", "{./}",
        ])

    def test_numbers_that_are_no_characters(self):
        self.check_refused([bytes([number]) for number in range(0x20)] + ["\x7f", "a\nb", "a\tb", "ab\n"])
        self.check_refused([chr(number) for number in range(0x80, 0xA0)])
        self.check_refused([chr(plane + low) for plane in range(0, 0x110000, 0x10000) for low in (0xFFFE, 0xFFFF)])
        self.check_refused([b"\xed%c\x80" % second for second in range(0xA0, 0xC0)])

    def test_characters(self):
        numbers = [0x20, 0x21, 0x7E, 0xA0, 0x7FF, 0x800, 0xD7FF, 0xE000, 0xFDD0, 0xFFFD, 0x10000, 0x1FFFD, 0x10FFFD]
        self.check_rows("+ |\n", [(chr(number) + "a", 2 if number > 0x20 else 1) for number in numbers])

    def test_utf8_strictly(self):
        self.check_refused([b"%c\x80\x80\x80" % first for first in list(range(0x80, 0xC2)) + list(range(0xF5, 0x100))])
        self.check_refused([
            b"\xc0\x80", b"\xc1\xbf", b"\xe0\x80\x80", b"\xe0\x9f\xbf", b"\xf0\x80\x80\x80", b"\xf0\x8f\xbf\xbf",
            b"\xf4\x90\x80\x80", b"\xc3", b"\xe2\x82", b"\xf0\x9d\x84", b"\xc3a", b"\xe2\x82a", b"\xf0\x9d\x84a",
            b"\xc3\xc3\xa4", b"\xe2a\xac", b"\xf0\x9da\x9e", b"a\x80", b"\xed\xa0\x80\xed\xb0\x80", b"\xc3{.1}",
        ])


class Paired(CountCase):
    def test_paired(self):
        self.check_rows("", [
            ("{+1}{-1}", 0), ("{+1}{+2}{-2}{-1}", 0), ("{+2}{-2}{+1}{-1}", 0), ("{+1}a{+2}b{-2}{+3}{-3}{-1}{.4}", 1),
            ("{.2}{.1}", 0), ("{+1}{.2}{-1}", 0), ("{.3}{+999}{-999}", 0),
        ])

    def test_deeply_nested(self):
        opened = "".join("{+%d}" % number for number in range(1, 1000))
        closed = "".join("{-%d}" % number for number in range(999, 0, -1))
        self.check_rows("", [(opened + "a" + closed, 1)])
        self.check_refused([opened + "a" + closed[:-4], opened[4:] + "a" + closed])

    def test_halves(self):
        self.check_refused(["{+1}", "{-1}", "a{+1}b", "a{-1}b", "{-1}{+1}", "{+1}{-1}{+2}", "{+1}{-1}{-2}",
                            "{+1}{+2}{-2}", "{+2}{-2}{-1}", "{-2}{+1}{-1}"])

    def test_not_straight(self):
        self.check_refused(["{+1}{+2}{-1}{-2}", "{+1}{-2}", "{+1}{-2}{-1}", "{+1}{+2}{-1}"])

    def test_a_number_twice(self):
        self.check_refused([
            "{+1}{-1}{+1}{-1}", "{+1}{+1}{-1}{-1}", "{.1}{.1}", "{.1}{.2}{.1}", "{.1}{+1}{-1}", "{+1}{.1}{-1}",
            "{+1}{-1}{.1}", "{+1}{-1}{-1}", "{+1}{+2}{-2}{.2}{-1}", "{+3}{+2}{-2}{+2}{-2}{-3}",
        ])


class Bounds(CountCase):
    def test_pieces(self):
        self.check([1], "", "a" * 4096)
        self.check([-6], "", "a" * 4097)
        self.check([4096], "+ |\n", "a" * 4096)
        self.check([-6], "+ |\n", "a" * 4097)
        self.check([4096], "+ |\n", "\U0001d11e" * 4096)
        self.check([-6], "+ |\n", "\U0001d11e" * 4097)
        self.check([4096], "+ |\n", "{{" * 4096)
        self.check([-6], "", "{{" * 4097)
        self.check([0], "", " " * 4096)
        tags = "".join("{.%d}" % number for number in range(1, 1000))
        self.check([1], "", tags + "a" * 3097)
        self.check([-6], "", tags + "a" * 3098)
        self.check([4094], "+ |\n", "{+1}" + "a" * 4094 + "{-1}")
        self.check([-6], "+ |\n", "{+1}" + "a" * 4095 + "{-1}")

    def test_bytes_of_rules(self):
        text = full_text(65536)
        self.check([1], text, "a b")
        self.check([0], text, "")
        self.check([-6], full_text(65537), "a b")
        self.check([-6], "x" * 65537, "a")
        self.check([-5], "x" * 65536, "a")

    def test_bytes_of_a_row(self):
        # So long a row has too many pieces at any rate: the first refusal is seen where it is a fault, too.
        for wrong in ("\n", "{", "{.0}"):
            self.check([-5], "", "a" * (65536 - len(wrong)) + wrong)
            self.check([-6], "", "a" * (65537 - len(wrong)) + wrong)
        self.check([-6], "", "a" * 65536)
        self.check([-6], "", "a" * 65600)

    def test_rules(self):
        self.check([2], "+ |\n" * 256, "ab")
        self.check([-6], "+ |\n" * 257, "ab")
        self.check([2], '- "x" |\n' * 255 + "+ |\n", "ab")

    def test_items(self):
        row = "a" * 32
        self.check([2], "+ " + ". " * 16 + "|" + " ." * 16 + "\n", row)
        self.check([2], "+ ^ " + ". " * 16 + "|" + " ." * 16 + " $\n", row)
        self.check([1], "+ ^ " + ". " * 16 + "|" + " ." * 15 + " $\n", row)
        self.check([-6], "+ " + ". " * 17 + "|\n", row)
        self.check([-6], "+ |" + " ." * 17 + "\n", row)

    def test_ranges(self):
        def ranges(number):
            return "%5" + "".join(f" {2 * low}-{2 * low}" for low in range(number)) + "\n+ %5 |\n"
        self.check([2], ranges(256), "aba")
        self.check([-6], ranges(257), "aba")

    def test_classes(self):
        text = "".join(f"%{number} {97 + number}-{97 + number}\n" for number in range(16))
        self.check([2], text + "+ | %15\n", "apa")
        self.check([-5], text + "%16 1-1\n", "apa")

    def test_characters_of_an_atom(self):
        self.check([2], '+ "' + "a" * 32 + '" |\n', "a" * 33)
        self.check([-6], '+ "' + "a" * 33 + '" |\n', "a" * 34)

    def test_how_often(self):
        self.check([-5], "+ .*0-33 |\n", "ab")
        self.check([-5], "+ .*33-33 |\n", "ab")
        self.check([-5], "+ .*1-1 |\n", "ab")
        self.check([-5], "+ .*2-1 |\n", "ab")

    def test_the_last_number(self):
        self.check([2], "%0 0-1114111\n+ %0 |\n", "ab")
        self.check([-5], "%0 0-1114112\n+ %0 |\n", "ab")

    def test_as_much_as_may_be(self):
        # 1024 times in all, and as many pieces as a row has.
        rules_text = '- ^ "a"*32-32 "ab"*32-32 |\n' + '- "a"*32-32 "b" | .*30-31\n' * 15 + "+ .*24-24 |\n"
        self.check([4096 - 23], rules_text, "a" * 4096)
        classes = "".join(f"%{number}" + "".join(f" {2 * low}-{2 * low}" for low in range(256)) + "\n"
                          for number in range(16))
        row = "".join(chr(0x4E00 + place) for place in range(4096))
        self.check([1], classes + "".join(f"+ %{number}*32-32 |\n" for number in range(16)), row)


class Refusals(RefusedPairs, CountCase):
    def refuses(self, answer, rules_text, row_text):
        self.check(answer[:1], rules_text, row_text)


class OneCallByItself(CountCase):
    def test_nothing_is_kept(self):
        asked = [("+ |\n", "abc", [3]), ("", "abc", [1]), ("x", "abc", [-5]), ("%0 97-97\n+ %0 |\n", "abc", [2]),
                 ("+ |\n", "{+1}", [-5]), ("%0 98-98\n+ %0 |\n", "abb", [2]), ("+ |\n" * 257, "a", [-6])]
        for rules_text, row, answer in asked + asked[::-1] + asked:
            self.check(answer, rules_text, row)


class AgainstTheDefinition(CountCase):
    """Small rules and rows, compared with what the document's words say when followed one by one."""

    def test_small_rules_and_rows(self):
        source = random.Random(20261119)
        for turn in range(400):
            classes, rules = small_rules(source)
            row = small_row(source)
            rules_text, row_text = write_rules(classes, rules), write_row(row)
            with self.subTest(rules=rules_text, row=row_text):
                self.check([len(segments(row, classes, rules))], rules_text, row_text)


if __name__ == "__main__":
    unittest.main()
