"""The call rule: which rule decides at a place of a paragraph and whether it cuts, or why that is refused."""

import random
import unittest

from helper import (HIGHEST, Asking, RefusedPairs, decides, full_text, segments, small_row, small_rules, utf8,
                    write_row, write_rules)
from segmentrules.segments import count, rule

SENTENCES = '%0 65-90\n- "z." | " B."\n+ ".*?" |\n+ "." | " " %0\n- ^ %0 |\n'
# The numbers of these rules, as they are answered.
KEEPS_ZB, CUTS_STARS, CUTS_SENTENCE, KEEPS_CAPITAL = 0, 3, 5, 6


class RuleCase(Asking):
    """Tests of rule."""

    def check(self, expected, place, rules_text, row_text):
        self.check_call(expected, rule, place, rules_text, row_text)

    def check_places(self, rules_text, table):
        """A table of rows and what is answered at their places, from 1 on; None where no rule says anything."""
        for row_text, answers in table:
            with self.subTest(rules=rules_text, row=row_text):
                for place, answer in enumerate(answers, 1):
                    self.check([-2] if answer is None else [answer], place, rules_text, row_text)
                for place in (0, len(answers) + 1, len(answers) + 2, HIGHEST):
                    self.check([-2], place, rules_text, row_text)

    def check_cuts(self, rules_text, table):
        """A table of rows and the places at which the only rule, which cuts, says something."""
        for row_text, cuts in table:
            last = sum(sign not in "{}" for sign in row_text)
            with self.subTest(rules=rules_text, row=row_text):
                for place in range(last + 2):
                    self.check([1] if place in cuts else [-2], place, rules_text, row_text)


class Ordinary(RuleCase):
    def test_sentences(self):
        row = "Go z. B. to. It"
        self.check([KEEPS_CAPITAL], 1, SENTENCES, row)
        self.check([-2], 2, SENTENCES, row)
        self.check([KEEPS_ZB], 5, SENTENCES, row)
        self.check([-2], 8, SENTENCES, row)
        self.check([CUTS_SENTENCE], 12, SENTENCES, row)
        self.check([CUTS_STARS], 3, SENTENCES, ".*?.*?")

    def test_the_first_rule_decides_and_cuts(self):
        self.check_places('+ "a" |\n- | "b"\n- |\n', [("ab", [1]), ("aba", [1, 4]), ("aab", [1, 1])])

    def test_a_rule_that_keeps_before_one_that_cuts(self):
        self.check_places('- | "b"\n+ "a" |\n+ |\n', [("ab", [0]), ("aba", [0, 5]), ("aab", [3, 0])])

    def test_only_a_later_rule_says_something(self):
        self.check_places('- "x" |\n+ "y" |\n- | "z"\n+ "a" |\n', [("ab", [7]), ("az", [4]), ("ya", [3]), ("xz", [0]),
                                                                ("bab", [None, 7])])

    def test_each_rule_has_its_number(self):
        rules_text = "".join(f'{"-+"[number % 2]} "{chr(97 + number)}" |\n' for number in range(26))
        row = "abcdefghijklmnopqrstuvwxyz."
        self.check_places(rules_text, [(row, [2 * number + number % 2 for number in range(26)])])
        rules_text = "".join(f'{"+-"[number % 2]} | "{chr(97 + number)}"\n' for number in range(26))
        self.check_places(rules_text, [("." + row[:-1], [2 * number + 1 - number % 2 for number in range(26)])])

    def test_several_rules_say_the_same(self):
        self.check_places("- |\n+ |\n", [("abc", [0, 0])])
        self.check_places("+ |\n- |\n", [("abc", [1, 1])])
        self.check_places("- ^ | $\n- |\n- |\n", [("abc", [2, 2])])

    def test_items_on_both_sides(self):
        self.check_places('+ "a" "b" | "c" "d"\n', [("abcd", [None, 1, None]), ("abcx", [None] * 3),
                                                   ("xbcd", [None] * 3), ("xabcdx", [None, None, 1, None, None])])
        self.check_places('%0 48-57\n- %0 . | . %0\n', [("1ab2", [None, 0, None]), ("1a2b", [None] * 3)])

    def test_the_beginning(self):
        self.check_places('+ ^ "a" |\n', [("aaa", [1, None]), ("baa", [None, None]), ("{.1}a{.2}a", [1])])
        self.check_places('- ^ .*1-2 |\n+ "a" |\n', [("aaaa", [0, 0, 3])])
        self.check_places("+ ^ |\n", [("aaa", [None, None])])

    def test_the_end(self):
        self.check_places('+ | "a" $\n', [("aaa", [None, 1]), ("aab", [None, None]), ("a{.1}a{.2}", [1])])
        self.check_places('- | .*1-2 $\n+ | "a"\n', [("aaaa", [3, 0, 0])])
        self.check_places("+ | $\n", [("aaa", [None, None])])

    def test_beginning_and_end(self):
        self.check_places("+ ^ . | . $\n", [("ab", [1]), ("abc", [None, None])])
        self.check_places("- ^ .*0-5 | .*2-2 $\n", [("abcd", [None, 0, None])])

    def test_no_items(self):
        self.check_places("+ |\n", [("abc", [1, 1])])
        self.check_places('+ "b" |\n', [("abc", [None, 1])])
        self.check_places('+ | "b"\n', [("abc", [1, None])])
        self.check_places('- |\n', [("a b", [0, 0])])

    def test_blanks_are_characters(self):
        self.check_places('+ " " |\n- | " "\n', [("   ", [1, 1]), (" a ", [1, 2]), ("a a", [2, 1])])


class Matching(RuleCase):
    def test_any_character(self):
        self.check_cuts("+ . . | .\n", [("abcd", [2, 3]), ("ab", []), ("\u00e4 \u20ac\U0001d11e", [2, 3])])

    def test_a_class(self):
        self.check_cuts("%3 98-99 101-101\n%4 0-1114111\n+ %3 | %4\n", [("abcdefa", [2, 3, 5])])
        self.check_cuts("%3 98-99 101-101\n%15 228-228 8364-8364 119070-119070\n+ | %15\n",
                        [("b\u00e4\u20ac\U0001d11e\u00e5\u20ad\U0001d11f", [1, 2, 3])])

    def test_certain_characters(self):
        self.check_cuts('+ "ab" |\n', [("abab", [2]), ("aabbx", [3]), ("ba", [])])
        self.check_cuts('+ | "ab"\n', [("abab", [2]), ("xabb", [1]), ("abx", [])])
        self.check_cuts('+ "\u00e4\U0001d11e" | "\u20ac"\n', [("\u00e4\U0001d11e\u20ac\u00e4\U0001d11e", [2])])

    def test_a_brace(self):
        self.check_places('+ "{" | "}"\n', [("{{}", [1]), ("}{{}{{", [None, 1, None])])
        self.check_places("%0 123-123\n- %0 | %0\n", [("{{{{{{", [0, 0])])

    def test_how_often(self):
        for atom in (".", '"a"', "%0"):
            for often, fits in (("", [1]), ("*0-0", [0]), ("*0-1", [0, 1]), ("*1-2", [1, 2]), ("*2-3", [2, 3]),
                                ("*3-3", [3]), ("*0-32", range(6)), ("*5-32", [5])):
                for times in range(6):
                    row = "c" + "a" * times + "bx"
                    self.check([1] if times in fits else [-2], times + 2, f'%0 97-97\n+ "c" {atom}{often} "b" |\n', row)
                    row = "xb" + "a" * times + "c"
                    self.check([1] if times in fits else [-2], 1, f'%0 97-97\n+ | "b" {atom}{often} "c"\n', row)

    def test_how_often_from_the_beginning(self):
        for least, most in ((0, 0), (0, 1), (1, 2), (2, 2), (3, 5), (0, 32), (31, 32), (32, 32)):
            row = "a" * 40
            self.check_cuts(f"+ ^ .*{least}-{most} |\n", [(row, range(max(least, 1), most + 1))])
            self.check_cuts(f'+ | "a"*{least}-{most} $\n', [(row, range(40 - most, 40 - max(least, 1) + 1))])

    def test_several_characters_several_times(self):
        self.check_cuts('+ ^ "ab"*0-3 |\n', [("abababababx", [2, 4, 6]), ("abaab", [2])])
        self.check_cuts('+ | "ab"*2-3 $\n', [("xababababab", [5, 7])])

    def test_any_way_of_matching_will_do(self):
        self.check_cuts('+ ^ "a"*1-3 "ab" |\n', [("aabx", [3]), ("aaaabx", [5]), ("aaaaabx", []), ("abx", [])])
        self.check_cuts('+ | "b" "a"*0-3 "a" $\n', [("xba", [1]), ("xbaaaa", [1]), ("xbaaaaa", [])])

    def test_tags_are_left_out(self):
        self.check_places('+ "ab" | "c"\n', [("a{.1}b{+2}c{-2}", [None, 1]), ("{+1}ab{-1}c", [None, 1])])
        self.check_places('+ "1" |\n+ "+" |\n- |\n', [("a{+1}b{-1}c", [4, 4])])
        self.check_places("+ ^ . . |\n", [("{.1}{.2}a{.3}b{.4}c", [None, 1])])


class Places(RuleCase):
    def test_without_characters(self):
        self.check_places("+ |\n", [("", []), ("{.1}", []), ("{+1}{-1}", [])])
        for place in (1, 2, HIGHEST):
            self.check([-2], place, "+ |\n", "{+1}{-1}{.2}")

    def test_one_character(self):
        self.check_places("+ |\n- |\n", [("a", []), (" ", []), ("{{", []), ("{.1}\U0001d11e{.2}", [])])

    def test_the_ends_are_no_places(self):
        self.check_places("+ |\n", [("ab", [1]), ("abc", [1, 1])])
        self.check_places("+ ^ |\n+ | $\n- . |\n", [("ab", [4])])

    def test_the_first_and_the_last_place(self):
        self.check_places('+ | "d"\n- "a" |\n', [("abcd", [2, None, 1])])

    def test_the_highest_number(self):
        for row in ("", "a", "ab", "a" * 4096):
            self.check([-2], HIGHEST, "+ |\n", row)

    def test_places_are_counted_in_characters(self):
        # Not in bytes, not in pieces.
        self.check_places("+ |\n", [("\U0001d11e\u20ac\u00e4", [1, 1]), ("{{{{", [1]), ("{.1}a{.2}b{.3}", [1])])

    def test_no_rules_at_all(self):
        self.check_places("", [("", []), ("a", []), ("ab", [None]), ("a. b", [None] * 3)])
        self.check_places("%0 0-1114111\n", [("ab", [None])])

    def test_no_rule_that_says_anything(self):
        self.check_places('+ "." |\n- | "."\n', [("ab", [None]), ("abc.d", [None, None, 2, 1])])


class Bounds(RuleCase):
    def test_rules(self):
        self.check([511], 1, '- "x" |\n' * 255 + "+ |\n", "ab")
        self.check([510], 1, '+ "x" |\n' * 255 + "- |\n", "ab")
        self.check([-6], 1, '- "x" |\n' * 256 + "+ |\n", "ab")

    def test_pieces(self):
        self.check([1], 4095, "+ |\n", "a" * 4096)
        self.check([-2], 4096, "+ |\n", "a" * 4096)
        self.check([-6], 1, "+ |\n", "a" * 4097)
        self.check([1], 4093, "+ |\n", "{+1}" + "\U0001d11e" * 4094 + "{-1}")
        self.check([-2], 4094, "+ |\n", "{+1}" + "\U0001d11e" * 4094 + "{-1}")
        self.check([-6], 1, "+ |\n", "{+1}" + "\U0001d11e" * 4095 + "{-1}")

    def test_bytes_of_rules(self):
        # None of these long rules says anything here.
        self.check([-2], 1, full_text(65536), "ab")
        self.check([-6], 1, full_text(65537), "ab")

    def test_bytes_of_a_row(self):
        # So long a row has too many pieces at any rate: the first refusal is seen where it is a fault, too.
        self.check([-5], 1, "+ |\n", "a" * 65535 + "{")
        self.check([-6], 1, "+ |\n", "a" * 65536 + "{")

    def test_items(self):
        row = "a" * 32
        for beginning, end in (("", ""), ("^ ", " $")):
            self.check([1], 16, "+ " + beginning + ". " * 16 + "|" + " ." * 16 + end + "\n", row)
            self.check([-6], 16, "+ " + beginning + ". " * 17 + "|" + " ." * 15 + end + "\n", row)
            self.check([-6], 16, "+ " + beginning + ". " * 15 + "|" + " ." * 17 + end + "\n", row)

    def test_ranges(self):
        ranges = "".join(f" {2 * low}-{2 * low}" for low in range(256))
        self.check([1], 1, f"%5{ranges}\n+ | %5\n", "ab")
        self.check([-2], 1, f"%5{ranges}\n+ | %5\n", "ba")
        self.check([1], 1, f"%5{ranges}\n+ | %5\n", "a\u01fe")
        self.check([-6], 1, f"%5{ranges} 512-512\n+ | %5\n", "ab")

    def test_characters_of_an_atom(self):
        word = "abcdefghijklmnopqrstuvwxyz012345"
        self.check([1], 32, f'+ "{word}" |\n', word + "6")
        self.check([1], 1, f'+ | "{word}"\n', "6" + word)
        self.check([-6], 33, f'+ "{word}6" |\n', word + "67")

    def test_how_often(self):
        self.check([1], 32, "+ ^ .*32-32 |\n", "a" * 33)
        self.check([-5], 33, "+ ^ .*33-33 |\n", "a" * 34)

    def test_as_much_as_may_be(self):
        rules_text = '- ^ "a"*32-32 "ab"*32-32 |\n' + '- "a"*32-32 "b" | .*30-31\n' * 15 + "+ .*24-24 |\n"
        self.check([33], 24, rules_text, "a" * 4096)
        self.check([33], 4095, rules_text, "a" * 4096)
        self.check([-2], 23, rules_text, "a" * 4096)


class Refusals(RefusedPairs, RuleCase):
    def refuses(self, answer, rules_text, row_text):
        # Whether there is such a place is asked last.
        for place in (0, 1, HIGHEST):
            self.check(answer[:1], place, rules_text, row_text)


class OneCallByItself(RuleCase):
    def test_nothing_is_kept(self):
        asked = [(1, "+ |\n", "abc", [1]), (1, "", "abc", [-2]), (1, "x", "abc", [-5]), (2, "- |\n", "abc", [0]),
                 (3, "- |\n", "abc", [-2]), (1, "%0 97-97\n+ %0 |\n", "abc", [1]), (1, "+ |\n", "{+1}", [-5]),
                 (1, "%0 98-98\n+ %0 |\n", "abb", [-2]), (2, "%0 98-98\n+ %0 |\n", "abb", [1])]
        for place, rules_text, row, answer in asked + asked[::-1] + asked:
            self.check(answer, place, rules_text, row)


class AgainstTheDefinition(RuleCase):
    """Small rules and rows, compared with what the document's words say when followed one by one."""

    def test_small_rules_and_rows(self):
        source = random.Random(20261120)
        for turn in range(150):
            classes, rules = small_rules(source)
            row = small_row(source)
            text = "".join(piece for piece in row if isinstance(piece, str))
            rules_text, row_text = write_rules(classes, rules), write_row(row)
            with self.subTest(rules=rules_text, row=row_text):
                for place in range(len(text) + 2):
                    number = decides(place, text, classes, rules) if 0 < place < len(text) else None
                    expected = -2 if number is None else 2 * number + rules[number][0]
                    self.check([expected], place, rules_text, row_text)

    def test_cuts_part_what_is_counted(self):
        # Without blanks and tags there is one segment more than there are places where a rule cuts.
        source = random.Random(20261121)
        for turn in range(100):
            classes, rules = small_rules(source)
            row = [piece for piece in small_row(source) if isinstance(piece, str) and piece != " "] or ["a"]
            rules_text, row_text = utf8(write_rules(classes, rules)), utf8(write_row(row))
            answers = [rule(place, rules_text, row_text)[0] for place in range(len(row) + 1)]
            cuts = sum(answer > 0 and answer % 2 == 1 for answer in answers)
            with self.subTest(rules=write_rules(classes, rules), row=write_row(row)):
                self.assertEqual(count(rules_text, row_text), [cuts + 1])
                self.assertEqual(len(segments(row, classes, rules)), cuts + 1)


if __name__ == "__main__":
    unittest.main()
