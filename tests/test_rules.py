"""The call rules: how many rules a text has, or why it is refused."""

import random
import unittest

from helper import Asking, begins_rules_text, full_text, is_character, is_rules_text, utf8
from segmentrules.segments import rules

EVERYTHING = utf8(
    "%0 0-0\n%1 32-32\n%7 65-90 97-122 196-1114110\n%9 5-9 10-10 12-300\n%10 48-57\n%15 1114111-1114111\n"
    '+ |\n- |\n+ ^ |\n- | $\n+ ^ | $\n+ . | .\n- ^ %7 "z. B." %10*1-3 | . %1 %15*0-0 $\n'
    '+ .*0-1 .*0-32 .*32-32 .*1-2 .*2-2 .*9-10 | "\u00e4\u20ac\U0001d11e|*{}%"*3-4 %0 %9*30-31 $\n'
)


class RulesCase(Asking):
    """Tests of rules."""

    def check(self, expected, text):
        data = utf8(text) if isinstance(text, str) else list(text)
        self.assertEqual(self.ask(rules, data), expected, bytes(data[:80]))

    def check_all(self, table):
        """A table of texts and what is answered for each."""
        for text, expected in table:
            with self.subTest(text=text):
                self.check(expected, text)

    def check_faults(self, table):
        """A table of texts and the place of each one's fault."""
        self.check_all([(text, [-5, place]) for text, place in table])


class Ordinary(RulesCase):
    def test_no_rules_at_all(self):
        self.check([0], "")

    def test_classes_alone(self):
        self.check_all([("%0 32-32\n", [0]), ("%0 65-90 97-122\n%1 48-57\n%15 0-1114111\n", [0])])

    def test_how_many(self):
        self.check_all([
            ("+ |\n", [1]),
            ("- |\n", [1]),
            ("+ |\n+ |\n- |\n+ |\n", [4]),
            ('%3 65-90\n%4 97-122\n- "z." | " B."\n+ "." | " " %3 %4\n+ "!" |\n', [3]),
        ])

    def test_each_form_of_an_atom(self):
        self.check_all([
            ("+ . | .\n", [1]),
            ("%12 65-90\n+ %12 | %12\n", [1]),
            ('+ "a" | "a b"\n', [1]),
            ('+ " " | "   "\n', [1]),
            ('+ "+ ^ . %0 | $ *1-2 -" | "\\\'#{}~"\n', [1]),
            ('+ "\u00e4" | "\u20ac" "\U0001d11e"\n', [1]),
        ])

    def test_each_form_of_how_often(self):
        for often in ("", "*0-0", "*0-1", "*0-32", "*1-2", "*1-32", "*2-2", "*3-10", "*9-9", "*10-10", "*32-32"):
            for atom in (".", "%5", '"ab"'):
                with self.subTest(atom=atom, often=often):
                    self.check([2], f"%5 65-90\n+ {atom}{often} |\n- | {atom}{often}\n")

    def test_every_least_and_most(self):
        for least in range(33):
            for most in range(33):
                if (least, most) != (1, 1) and least <= most:
                    self.check([1], f"+ .*{least}-{most} |\n")

    def test_beginning_and_end(self):
        self.check_all([
            ("+ ^ |\n", [1]),
            ("+ | $\n", [1]),
            ("+ ^ | $\n", [1]),
            ("+ ^ . | . $\n", [1]),
            ("- ^ . . |\n- | . . $\n", [2]),
        ])

    def test_everything(self):
        self.check([8], EVERYTHING)

    def test_ranges_side_by_side(self):
        self.check_all([
            ("%0 1-2 3-4\n", [0]),
            ("%0 0-0 1-1 2-2\n", [0]),
            ("%0 9-9 10-10 11-99 100-100\n", [0]),
            ("%0 0-1114110 1114111-1114111\n", [0]),
        ])

    def test_class_numbers(self):
        self.check_all([(f"%{number} 65-90\n+ %{number} |\n", [1]) for number in range(16)])
        self.check([1], "".join(f"%{number} 1-2\n" for number in range(16)) + "+ %0 %1 %9 %10 %15 |\n")
        self.check([0], "%1 1-2\n%10 1-2\n%11 1-2\n")


class TooEarly(RulesCase):
    def test_every_beginning(self):
        # Bytes that some text begins with have their fault behind them, unless they are rules themselves.
        text = bytes(EVERYTHING)
        for size in range(len(text)):
            data = text[:size]
            whole = data == b"" or data.endswith(b"\n")
            lines = data.split(b"\n")[:-1]
            answer = [sum(line[:1] in (b"+", b"-") for line in lines)] if whole else [-5, size]
            self.check(answer, data)

    def test_last_line_not_ended(self):
        self.check_faults([("+ |", 3), ("+ | $", 5), ("%0 1-2", 6), ("+ |\n- |", 7), ('+ "a', 4), ("+ .*", 4)])


class Lines(RulesCase):
    def test_what_a_line_begins_with(self):
        self.check_faults([
            ("\n", 0), (" ", 0), ("x", 0), ("=", 0), ("|\n", 0), ("*\n", 0), ("^\n", 0), ("\r\n", 0),
            ("+ |\n\n", 4), ("+ |\n x", 4), ("%0 1-2\n\n", 7), ("%0 1-2\n1-2\n", 7), (b"\x00", 0), (b"\xff", 0),
        ])

    def test_class_behind_a_rule(self):
        self.check_faults([("+ |\n%0 1-2\n", 4), ("%0 1-2\n- |\n%1 1-2\n", 11)])

    def test_a_rule_line(self):
        self.check_faults([
            ("+\n", 1), ("+|\n", 1), ("+^ |\n", 1), ("-. |\n", 1), ("++ |\n", 1), ("+  |\n", 2), ("+ \n", 2),
            ("+ ^\n", 3), ("+ ^|\n", 3), ("+ ^. |\n", 3), ("+ ^ ^ |\n", 4), ("+ ^  |\n", 4), ("+ ^ \n", 4),
            ("+ . ^ |\n", 4), ("+ $ |\n", 2), ("+ . $ |\n", 4), ("+ .|\n", 3), ("+ ..|\n", 3), ("+ .\n", 3),
            ("+ . \n", 4), ("+ .  |\n", 4), ("+ ||\n", 3), ("+ | |\n", 4), ("+ |.\n", 3), ("+ |$\n", 3),
            ("+ | \n", 4), ("+ |  .\n", 4), ("+ | ^\n", 4), ("+ | . ^\n", 6), ("+ | .$\n", 5), ("+ | . \n", 6),
            ("+ | ..\n", 5), ("+ | .\r\n", 5), ("+ | $ $\n", 5), ("+ | $ .\n", 5), ("+ | $$\n", 5),
            ("+ | $ \n", 5), ("+ | $*1-2\n", 5), ("+ ^*1-2 |\n", 3), ("+ |*1-2\n", 3), ("+ .%0 |\n", 3),
        ])

    def test_an_atom(self):
        self.check_faults([
            ("+ a |\n", 2), ("+ 0 |\n", 2), ("+ * |\n", 2), ("+ | a\n", 4), ("+ | *0-1\n", 4), ("+ {a} |\n", 2),
            ('+ "" |\n', 3), ('+ | ""\n', 5), ('+ "a" "" |\n', 7), ('+ """ |\n', 3), ('+ "a"" |\n', 5),
            ('+ "a"b |\n', 5), ('+ "a|\n', 5), ('+ "a\n" |\n', 4), ('+ "\n" |\n', 3), ('+ "\t" |\n', 3),
        ])


class Classes(RulesCase):
    def test_number(self):
        self.check_faults([
            ("% 1-2\n", 1), ("%\n", 1), ("%a", 1), ("%-1 1-2\n", 1), ("%00 1-2\n", 2), ("%01 1-2\n", 2),
            ("%16 1-2\n", 2), ("%19 1-2\n", 2), ("%20 1-2\n", 2), ("%99 1-2\n", 2), ("%100 1-2\n", 3),
            ("%150 1-2\n", 3), ("%0\t1-2\n", 2), ("%0-1 1-2\n", 2),
        ])

    def test_numbers_rise(self):
        self.check_faults([
            ("%0 1-2\n%0 1-2\n", 8), ("%5 1-2\n%4 1-2\n", 8), ("%5 1-2\n%5 1-2\n", 8), ("%5 1-2\n%0 1-2\n", 8),
            # A one may still become a ten or more.
            ("%5 1-2\n%1 1-2\n", 9), ("%1 1-2\n%1 1-2\n", 9), ("%9 1-2\n%9 1-2\n", 8), ("%9 1-2\n%1\n", 9),
            ("%10 1-2\n%10 1-2\n", 10), ("%12 1-2\n%11 1-2\n", 10), ("%12 1-2\n%9 1-2\n", 9),
            ("%14 1-2\n%1 1-2\n", 10), ("%14 1-2\n%14 1-2\n", 10), ("%13 1-2\n%16 1-2\n", 10),
        ])

    def test_nothing_behind_class_15(self):
        self.check_faults([("%15 1-2\n%15 1-2\n", 8), ("%15 1-2\n%1", 8), ("%15 1-2\n%16 1-2\n", 8)])
        self.check([0], "%14 1-2\n%15 1-2\n")
        self.check([1], "%15 1-2\n+ |\n")

    def test_ranges(self):
        self.check_faults([
            ("%0\n", 2), ("%0 \n", 3), ("%0 -2\n", 3), ("%0 1\n", 4), ("%0 1 2\n", 4), ("%0 1-\n", 5),
            ("%0 1--2\n", 5), ("%0  1-2\n", 3), ("%0 1 -2\n", 4), ("%0 1- 2\n", 5), ("%0 1-2 \n", 7),
            ("%0 1-2  3-4\n", 7), ("%0 1-2,3-4\n", 6), ("%0 1-2-3\n", 6), ("%0 a-b\n", 3), ("%0 1-2\r\n", 6),
            ("%0 01-2\n", 4), ("%0 00-2\n", 4), ("%0 1-02\n", 5), ("%0 0-00\n", 6), ("%0 0-01\n", 6),
            ("%0 +1-2\n", 3), ("%0 1-2$\n", 6), ("%0 1-2 |\n", 7),
        ])

    def test_low_not_above_high(self):
        self.check([0], "%0 5-5\n%1 1114111-1114111\n")
        self.check_faults([
            ("%0 5-0\n", 5), ("%0 5-4\n", 6), ("%0 50-49\n", 8), ("%0 50-5\n", 7), ("%0 50-4 60-70\n", 7),
            ("%0 1114111-1114110\n", 17), ("%0 1114111-2\n", 11), ("%0 1114110-111411\n", 17),
            ("%0 500000-2\n", 10), ("%0 500000-11\n", 12), ("%0 200000-19\n", 11),
        ])

    def test_each_range_behind_the_one_before(self):
        self.check_faults([
            ("%0 1-2 2-3\n", 8), ("%0 1-2 1-3\n", 8), ("%0 5-9 9-9\n", 8), ("%0 5-9 0-1\n", 7),
            ("%0 5-9 9-10\n", 8), ("%0 10-19 19-20\n", 11), ("%0 10-19 18-20\n", 11), ("%0 10-19 1-20\n", 10),
            ("%0 3-4 1-2\n", 8), ("%0 0-0 0-0\n", 7), ("%0 1-500000 2-3\n", 12), ("%0 1-500000 12-3\n", 13),
            ("%0 1-1114110 1114110-1114111\n", 19), ("%0 1-1114110 2\n", 13), ("%0 1-1114109 111411-1114111\n", 19),
        ])

    def test_the_last_number(self):
        self.check([0], "%0 0-1114111\n")
        self.check_faults([
            ("%0 0-1114112\n", 11), ("%0 0-1114120\n", 11), ("%0 0-2000000\n", 11), ("%0 0-9999999\n", 11),
            ("%0 1114112-1114112\n", 9), ("%0 0-11141110\n", 12),
            ("%0 11141111-2\n", 10), ("%0 0-1114111 1114112-1114112\n", 12), ("%0 0-1114111 1\n", 12),
            ("%0 0-1114111 \n", 12), ("%0 0-1 3-1114111 1\n", 16), ("%0 0-1 1114111-1114111 1\n", 22),
        ])

    def test_signs_beside_the_digits(self):
        self.check_faults([
            ("%: 1-2\n", 1), ("%1: 1-2\n", 2), ("%/ 1-2\n", 1), ("%0 1:-20\n", 4), ("%0 :-20\n", 3), ("%0 1/-2\n", 4),
            ("%0 1-1:\n", 6), ("%0 1-:\n", 5), ("+ .*1:-32 |\n", 5), ("+ .*0-: |\n", 6), ("+ .*0-1: |\n", 7),
        ])

    def test_a_rule_names_only_classes_that_are_there(self):
        self.check_faults([
            ("+ %0 |\n", 2), ("+ | %0\n", 4), ("%0 1-2\n+ %1 |\n", 10), ("%0 1-2\n+ | %1\n", 12),
            ("%1 1-2\n+ %10 |\n", 11), ("%10 1-2\n+ %1 |\n", 12), ("%10 1-2\n+ %12 |\n", 12),
            ("%1 1-2\n%12 1-2\n+ %13 |\n", 19), ("%0 1-2\n+ %00 |\n", 11), ("%1 1-2\n+ %01 |\n", 10),
            ("%2 1-2\n+ % |\n", 10), ("%2 1-2\n+ %3*0-0 |\n", 10), ("%15 1-2\n+ %16 |\n", 12),
        ])


class HowOften(RulesCase):
    def test_form(self):
        self.check_faults([
            ("+ .* |\n", 4), ("+ .*1 |\n", 5), ("+ .*1- |\n", 6), ("+ .*-2 |\n", 4), ("+ .*2 |\n", 5),
            ("+ .*1-2- |\n", 7), ("+ .*1-2*1-2 |\n", 7), ("+ .*1--2 |\n", 6), ("+ .** |\n", 4),
            ("+ .* 1-2 |\n", 4), ("+ .*1 -2 |\n", 5), ("+ .*1- 2 |\n", 6), ("+ . *1-2 |\n", 4),
            ("+ .*1-2. |\n", 7), ("+ | .*1-2|\n", 9), ("+ | .*1-\n", 8),
        ])

    def test_no_nought_in_front(self):
        self.check_faults([("+ .*00-1 |\n", 5), ("+ .*01-2 |\n", 5), ("+ .*0-02 |\n", 7), ("+ .*2-03 |\n", 6)])

    def test_once_and_no_more_is_not_written(self):
        self.check_faults([("+ .*1-1 |\n", 7), ('+ "a"*1-1 |\n', 9), ("+ | .*1-1\n", 9)])
        self.check([1], "+ .*1-10 |\n")

    def test_least_not_above_most(self):
        self.check_faults([
            ("+ .*1-0 |\n", 6), ("+ .*2-0 |\n", 6), ("+ .*2-1 |\n", 7), ("+ .*5-4 |\n", 6), ("+ .*5-3 |\n", 7),
            ("+ .*4-3 |\n", 7), ("+ .*10-9 |\n", 7), ("+ .*10-1 |\n", 8), ("+ .*20-19 |\n", 7),
            ("+ .*20-1 |\n", 7), ("+ .*32-31 |\n", 8), ("+ .*32-2 |\n", 7), ("+ .*32-3 |\n", 8),
        ])

    def test_at_most_32(self):
        self.check_faults([
            ("+ .*0-33 |\n", 7), ("+ .*33-33 |\n", 5), ("+ .*0-40 |\n", 7),
            ("+ .*0-99 |\n", 7), ("+ .*0-100 |\n", 8), ("+ .*0-320 |\n", 8), ("+ .*32-33 |\n", 8),
            ("+ .*4-40 |\n", 7), ("+ .*100-100 |\n", 6),
        ])
        self.check([1], "+ .*32-32 |\n")


class Characters(RulesCase):
    """The characters of an atom, and UTF-8 strictly."""

    KEPT = (0x20, 0x21, 0x23, 0x7E, 0xA0, 0xFF, 0x7FF, 0x800, 0xFFF, 0x1000, 0xD7FF, 0xE000, 0xFDD0, 0xFDEF,
            0xFEFF, 0xFFFD, 0x10000, 0x1FFFD, 0x20000, 0x3FFFD, 0xFFFFD, 0x100000, 0x10FFFD)

    def test_characters(self):
        for number in self.KEPT:
            with self.subTest(number=hex(number)):
                self.check([1], '+ "%s" |\n' % chr(number))
                self.check([1], '+ | "a%sb"\n' % chr(number))

    def test_numbers_that_are_no_characters(self):
        for number in list(range(0x20)) + [0x7F]:
            self.check_faults([(b'+ "%c" |\n' % number, 3), (b'+ "a%c" |\n' % number, 4)])
        for number in range(0x80, 0xA0):
            self.check_faults([('+ "%s" |\n' % chr(number), 4), ('+ "a%s" |\n' % chr(number), 5)])
        self.check_faults([('+ "\ufffe" |\n', 5), ('+ "\uffff" |\n', 5)])
        for plane in range(0x10000, 0x110000, 0x10000):
            for low in (0xFFFE, 0xFFFF):
                self.check_faults([('+ "%s" |\n' % chr(plane + low), 6)])

    def test_halves_are_no_characters(self):
        for second in range(0xA0, 0xC0):
            self.check_faults([(b'+ "\xed%c\x80" |\n' % second, 4)])
        self.check([1], b'+ "\xed\x9f\xbf" |\n')

    def test_first_bytes(self):
        for first in list(range(0x80, 0xC2)) + list(range(0xF5, 0x100)):
            self.check_faults([(b'+ "%c\x80\x80\x80" |\n' % first, 3)])
        for first in range(0xC3, 0xE0):
            self.check([1], b'+ "%c\x80" |\n' % first)
        for first in range(0xE1, 0xF0):
            self.check([1], b'+ "%c\x80\x80" |\n' % first)
        for first in range(0xF1, 0xF5):
            self.check([1], b'+ "%c\x80\x80\x80" |\n' % first)

    def test_every_second_byte(self):
        # From 800H on a last byte has its 64 numbers for itself, of which the first is as good as any.
        numbers = list(range(0x80, 0x800)) + list(range(0x800, 0x110000, 64))
        begun = {chr(number).encode("utf-8")[:2] for number in numbers if is_character(number)}
        for first in range(0xC2, 0xF5):
            for second in range(0x100):
                # The line's end is wrong in any case, so it is told where the second byte is right.
                place = 5 if bytes([first, second]) in begun else 4
                self.check([-5, place], b'+ "%c%c\n' % (first, second))

    def test_written_longer_than_needed(self):
        self.check_faults([
            (b'+ "\xc0\x80" |\n', 3), (b'+ "\xc1\xbf" |\n', 3), (b'+ "\xe0\x80\x80" |\n', 4),
            (b'+ "\xe0\x9f\xbf" |\n', 4), (b'+ "\xf0\x80\x80\x80" |\n', 4), (b'+ "\xf0\x8f\xbf\xbf" |\n', 4),
        ])
        self.check([1], b'+ "\xe0\xa0\x80\xf0\x90\x80\x80" |\n')

    def test_above_the_last_number(self):
        self.check_faults([(b'+ "\xf4\x90\x80\x80" |\n', 4), (b'+ "\xf4\xbf\xbf\xbf" |\n', 4)])
        self.check([1], b'+ "\xf4\x8f\xbf\xbd" |\n')

    def test_broken_off(self):
        for whole in (b"\xc3\xa4", b"\xe2\x82\xac", b"\xf0\x9d\x84\x9e"):
            for size in range(1, len(whole)):
                for wrong in (b'" |\n', b"a", b"\x7f", b"\xc0", b"\xff", b""):
                    self.check_faults([(b'+ "' + whole[:size] + wrong, 3 + size)])

    def test_utf8_outside_of_atoms(self):
        self.check_faults([("+ \u00e4 |\n", 2), ("\u00e4", 0), ("%\u0661 1-2\n", 1), ("+ |\u00a0\n", 3)])


class Bounds(RulesCase):
    def test_rules(self):
        for line in ("+ |\n", "- ^ . | . $\n"):
            self.check([255], line * 255)
            self.check([256], line * 256)
            self.check([-6], line * 257)
            self.check([-6], line * 1000)

    def test_classes(self):
        every = "".join(f"%{number} {number}-1114111\n" for number in range(16))
        self.check([0], every)
        self.check([256], every + "+ %0 %15 |\n" * 256)
        self.check([-5, len(every)], every + "%16 1-1\n")

    def test_ranges(self):
        def ranges(number):
            return "".join(f" {3 * low}-{3 * low + 1}" for low in range(number))
        self.check([0], "%0" + ranges(1) + "\n")
        self.check([0], "%0" + ranges(256) + "\n")
        self.check([-6], "%0" + ranges(257) + "\n")
        self.check([0], "%0" + ranges(256) + "\n%9" + ranges(256) + "\n")
        self.check([-6], "%0 1-2\n%8" + ranges(257) + "\n%9 1-2\n+ |\n")
        self.check([-6], "%0 1-2\n%15" + ranges(257) + "\n")

    def test_items(self):
        for item in (".", "%0", '"ab"', ".*0-0"):
            front = "%0 1-2\n- |\n+ "
            self.check([2], front + (item + " ") * 16 + "| " + " ".join([item] * 16) + "\n")
            self.check([2], front + "^ " + (item + " ") * 16 + "| " + " ".join([item] * 16) + " $\n")
            self.check([-6], front + (item + " ") * 17 + "|\n")
            self.check([-6], front + "| " + " ".join([item] * 17) + "\n")
            self.check([3], front + (item + " ") * 16 + "|\n- |\n")
            self.check([-6], front + (item + " ") * 17 + "|\n- |\n")

    def test_characters_of_an_atom(self):
        for sign in ("a", " ", "\u00e4", "\u20ac", "\U0001d11e"):
            self.check([1], '+ "' + sign + '" |\n')
            self.check([1], '+ "' + sign * 32 + '" | "' + sign * 32 + '"\n')
            self.check([-6], '+ "' + sign * 33 + '" |\n')
            self.check([-6], '+ | . "' + sign * 33 + '" .\n')
            self.check([-6], '+ "' + sign * 33 + '"*0-0 |\n')
            self.check([-6], '+ "' + sign * 400 + '" |\n')

    def test_bytes(self):
        for size in (65535, 65536):
            text = full_text(size)
            self.check([text.count(10)], text)
        for size in (65537, 65538, 65600):
            self.check([-6], full_text(size))

    def test_bytes_of_no_rules(self):
        self.check([-5, 0], [120] * 65536)
        self.check([-6], [120] * 65537)


class Refusals(RulesCase):
    """Where two refusals hold, the first one is answered, and a place stands behind -5 alone."""

    def test_too_many_bytes_before_a_fault(self):
        self.check([-6], utf8("x" * 65537))
        self.check([-6], utf8("+ |\n") * 16384 + utf8("+"))
        self.check([-6], utf8("+ |\n") * 16400)

    def test_a_fault_before_the_other_bounds(self):
        self.check([-5, 257 * 4], "+ |\n" * 257 + "x")
        self.check([-5, 65535], "+ |\n" * 16383 + "+ |x")
        ranges = "%0" + "".join(f" {low}-{low}" for low in range(300))
        self.check([-5, len(ranges)], ranges + "x\n")
        self.check([-5, 2 + 17 * 2], "+ " + ". " * 17 + "x\n")
        self.check([-5, 4 + 17 * 2 - 1], "+ |" + " ." * 17 + "x\n")
        self.check([-5, 3 + 33], '+ "' + "a" * 33 + "\n")
        self.check([-5, 41], '+ "' + "a" * 33 + '" |\n' + "+x")


class AgainstTheDefinition(RulesCase):
    """The fault's place, for texts that are rules but for some bytes."""

    SEEDS = (
        "",
        '%0 65-90 97-122\n%12 1-1114111\n- "z." | %12*0-3 $\n+ ^ %0*2-2 . | %0\n',
        "%1 9-9 10-19 500000-1114109 1114111-1114111\n%9 0-0\n%10 5-5\n+ .*1-32 %1 | %10*9-10 %9\n",
        '+ "\u00e4\u20ac\ud7ff\U0001d11e" | "a" $\n- . |\n',
        '%14 32-32\n%15 0-31 33-33\n+ |\n- ^ "%" "*" |\n+ | "|" %14 $\n',
    )
    SIGNS = b'0123456789:/ -+*%."|^$\n\na\x7f\x80\x9f\xa0\xbf\xc2\xe0\xed\xef\xf0\xf4'

    def changed(self, source, text):
        """The text with some bytes put in, taken out or changed."""
        data = bytearray(text)
        for turn in range(source.randint(1, 3)):
            place = source.randint(0, len(data))
            data[place:place + source.randint(0, 2)] = bytes(source.choices(self.SIGNS, k=source.randint(0, 2)))
        return bytes(data)

    def test_changed_texts(self):
        source = random.Random(20261119)
        for turn in range(600):
            data = self.changed(source, source.choice(self.SEEDS).encode("utf-8"))
            with self.subTest(data=data):
                self.look_at(data)

    def look_at(self, data):
        answer = self.ask(rules, list(data))
        if is_rules_text(data):
            self.assertEqual(answer, [sum(line[:1] in (b"+", b"-") for line in data.split(b"\n"))])
            return
        self.assertEqual(len(answer), 2)
        number, place = answer
        self.assertEqual(number, -5)
        self.assertTrue(begins_rules_text(data[:place]), answer)
        if place < len(data):
            self.assertFalse(begins_rules_text(data[:place + 1]), answer)
        self.assertLessEqual(place, len(data))


if __name__ == "__main__":
    unittest.main()
