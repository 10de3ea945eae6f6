"""The call put: the target document, or why it is refused and where the fault is."""

import collections
import random
import re
import unittest

from helper import (FAULTY_DOCUMENTS, Asking, RefusedDocuments, are_characters, full_text, pieces_of, segments,
                    small_document, small_rules, utf8, write_document, write_row, write_rules)
from segmentrules.segments import put, segs

DOTS = '+ "." |\n'

# The kinds of faults.
NO_TARGET, NO_ROW, TOO_MANY_PIECES, NOT_FITTING, NOT_AS_MANY, NO_RULES, NO_DOCUMENT = range(1, 8)

ROW = re.compile(rb"(?:[^{]|\{\{|\{[+.-][1-9][0-9]{0,2}\})*", re.DOTALL)

# What is put behind a beginning of a row's text to see whether some row's text begins so.
ROWS_ENDS = [b"", b"}", b"1}", b".1}", b"\x80", b"\xa0", b"\x80\x80", b"\xa0\x80", b"\x80\x80\x80", b"\x90\x80\x80"]


def is_row_text(data):
    """Whether the bytes are a row's text, however many pieces it has."""
    return ROW.fullmatch(data) is not None and are_characters(data)


def fault_in(data, is_text, ends):
    """The place of the first byte with which no such text goes on, None if the bytes are one."""
    for size in range(len(data) + 1):
        if not any(is_text(data[:size] + end) for end in ends):
            return size - 1
    return None if is_text(data) else len(data)


def document_fault(data):
    """The place of the fault of bytes that are no document's text, None if they are one; few bytes."""
    place = 0
    for line in re.findall(rb"[^\n]*\n|[^\n]+", data):
        sign, rest = line[:1], line[1:].rstrip(b"\n")
        if sign not in (b"|", b">"):
            return place
        if not line.endswith(b"\n"):
            return len(data)
        fault = fault_in(rest, are_characters if sign == b"|" else is_row_text, ROWS_ENDS)
        if fault is not None:
            return place + 1 + fault
        if sign == b">" and halves(pieces_of(rest.decode("utf-8"))) != ([], []):
            return place
        place += len(line)
    return None


def halves(pieces):
    """The left and the right halves of a row of pieces' texts, None if it is not straight.

    What is paired is taken away from within, until nothing more can be.
    """
    tags = [piece for piece in pieces if piece[0] == "{" and piece != "{{"]
    numbers = collections.defaultdict(list)
    for tag in tags:
        numbers[tag[2:-1]].append(tag[1])
    if any(signs not in (["+"], ["-"], ["."], ["+", "-"]) for signs in numbers.values()):
        return None
    left = [tag for tag in tags if tag[1] != "."]
    place = 0
    while place + 1 < len(left):
        if left[place][1] == "+" and left[place + 1] == "{-" + left[place][2:]:
            left[place:place + 2] = []
            place = max(place - 1, 0)
        else:
            place += 1
    signs = "".join(tag[1] for tag in left)
    if "+-" in signs:
        return None
    return [tag for tag in left if tag[1] == "-"], [tag for tag in left if tag[1] == "+"]


def fits(target, segment):
    """Whether a target fits a segment, of both of which the pieces' texts are handed in."""
    tags = [collections.Counter(piece for piece in pieces if piece[0] == "{" and piece != "{{")
            for pieces in (target, segment)]
    return halves(target) is not None and halves(target) == halves(segment) and tags[0] == tags[1]


def targets_fault(data, sources):
    """The targets' fault (kind, place) for segments whose texts are handed in, None if there is none; few bytes."""
    place = 0
    number = 0
    for line in re.findall(rb"[^\n]*\n|[^\n]+", data):
        if number == len(sources):
            return NOT_AS_MANY, place
        rest = line[1:].rstrip(b"\n")
        if line[:1] not in (b"=", b"-"):
            return NO_TARGET, place
        if line[:1] == b"-" and rest != b"":
            return NO_TARGET, place + 1
        if not line.endswith(b"\n"):
            return NO_TARGET, len(data)
        if line[:1] == b"=":
            fault = fault_in(rest, is_row_text, ROWS_ENDS)
            if fault is not None:
                return NO_ROW, place + 1 + fault
            if not fits(pieces_of(rest.decode("utf-8")), pieces_of(sources[number])):
                return NOT_FITTING, number
        place += len(line)
        number += 1
    return None if number == len(sources) else (NOT_AS_MANY, len(data))


def sources_of(document, classes, rules):
    """The texts of the segments of a document that is as for `write_document`."""
    return [write_row(pieces) for line in document if not isinstance(line, str)
            for first, behind, pieces in segments(line, classes, rules)]


def target_text(document, classes, rules, targets):
    """The target document's text; of targets that are to stay as they are there is None."""
    targets = list(targets)
    text = ""
    for line in document:
        if isinstance(line, str):
            text += "|" + line + "\n"
            continue
        text += ">"
        last = 0
        for first, behind, pieces in segments(line, classes, rules):
            target = targets.pop(0)
            text += write_row(line[last:first]) + (write_row(pieces) if target is None else target)
            last = behind
        text += write_row(line[last:]) + "\n"
    return text


class PutCase(Asking):
    """Tests of put."""

    def check(self, expected, rules_text, document, targets):
        self.check_call(expected, put, rules_text, document, targets)

    def check_text(self, text, rules_text, document, targets):
        data = utf8(text)
        self.check([0, len(data)] + data, rules_text, document, targets)

    def check_faults(self, rules_text, document, table):
        """A table of targets' texts and of the kinds and places of their faults."""
        for targets, kind, place in table:
            with self.subTest(document=document, targets=targets[:80]):
                self.check([-5, kind, place], rules_text, document, targets)


class Ordinary(PutCase):
    def test_numbers_as_they_are_answered(self):
        self.check([0, 11, 124, 97, 10, 62, 120, 32, 98, 46, 32, 99, 10], DOTS, "|a\n>a. b. c\n", "=x\n-\n-\n")
        self.check([0, 0], DOTS, "", "")
        self.check([-5, 4, 1], DOTS, ">a. b.\n", "=x\n={.1}\n")

    def test_targets_and_segments_beside_each_other(self):
        document = "> One.  Two. Three.\n"
        for targets, text in (("-\n-\n-\n", document), ("=Un.\n-\n-\n", "> Un.  Two. Three.\n"),
                              ("-\n=Deux.\n-\n", "> One.  Deux. Three.\n"),
                              ("-\n-\n=Trois.\n", "> One.  Two. Trois.\n"),
                              ("=Un.\n-\n=Trois.\n", "> Un.  Two. Trois.\n"),
                              ("=Un.\n=Deux.\n=Trois.\n", "> Un.  Deux. Trois.\n")):
            self.check_text(text, DOTS, document, targets)

    def test_several_lines(self):
        self.check_text("|a. b.\n>x. b.\n>\n|\n>d. y. \n> \n", DOTS, "|a. b.\n>a. b.\n>\n|\n>d. e. \n> \n",
                        "=x.\n-\n-\n=y.\n")
        self.check_text(">1\n>2\n|\n>3\n", "", ">a\n>b\n|\n>c\n", "=1\n=2\n=3\n")

    def test_raw_lines_as_they_are(self):
        document = "|\n|<p>\n>a\n|{+1}{\n||\n|>a\n|=b\n| - \u20ac\U0001d11e\n"
        self.check_text(document, "", document, "-\n")
        self.check_text(document.replace("\n>a", "\n>x"), "", document, "=x\n")

    def test_glue_as_it_is(self):
        rules_text = '+ "." |\n+ | "b"\n+ | " "\n'
        self.check_text(">a. {.1} xyz  \n", rules_text, ">a. {.1} b  \n", "-\n=xyz\n")
        self.check_text("> y {+1} {-1}x  \n", rules_text, "> a. {+1} {-1}b  \n", "=y\n=x\n")
        self.check_text(">{.1}  {+2}x{-2}  {.3}   y  {.4} {.5}  \n", rules_text,
                        ">{.1}  {+2} {-2}a.  {.3}   b  {.4} {.5}  \n", "={+2}x{-2}\n=y\n")

    def test_blanks_of_a_target_stay(self):
        self.check_text(">   x   b. \n", DOTS, "> a. b. \n", "=  x  \n-\n")

    def test_a_target_may_be_longer_or_shorter(self):
        self.check_text(">" + "long " * 100 + " b.\n", DOTS, ">a. b.\n", "=" + "long " * 100 + "\n-\n")
        self.check_text(">\u20ac b.\n", DOTS, ">" + "a" * 500 + ". b.\n", "=\u20ac\n-\n")

    def test_signs_within_a_target(self):
        self.check_text(">=-|> =\n", DOTS, ">a. b.\n", "==-|>\n==\n")
        self.check_text(">-x {{\n", DOTS, ">a. b.\n", "=-x\n={{\n")

    def test_an_empty_target(self):
        self.check_text("> \n", DOTS, ">a. b.\n", "=\n=\n")
        self.check_text(">\n", "", ">a\n", "=\n")
        self.check_text(">  b. \n", DOTS, "> a. b. \n", "=\n-\n")
        self.check_faults("", ">a{.1}\n", [("=\n", NOT_FITTING, 0)])

    def test_targets_of_blanks_alone(self):
        self.check_text(">   \n", "", ">a\n", "=   \n")

    def test_without_a_segment(self):
        for document in ("", "|\n", ">\n", "|a. b\n>  {+1} {-1}{.2}\n>\n", "|\n" * 16384):
            for rules_text in ("", "+ |\n"):
                self.check_text(document, rules_text, document, "")

    def test_segments_everywhere(self):
        for document in (">a\n", "> a. {.1} b{+2} . c{-2} \n|raw\n>d.\n>\n", ">{+1}{+2}a. b.{-2} c{-1}\n",
                         ">{{.\u20ac. \U0001d11e{.999}\n"):
            for rules_text in ("", "+ |\n", DOTS):
                number = segs(utf8(rules_text), utf8(document))[1]
                self.check_text(document, rules_text, document, "-\n" * number)


class Fitting(PutCase):
    """Which targets fit, by what is answered; each document is one segment, or is parted by dots."""

    def check_fit(self, document, targets):
        parted = document.split("|")
        text = "".join(target if target != "-" else part for part, target in zip(parted, targets))
        self.check_text(">" + text + "\n", DOTS, ">" + "".join(parted) + "\n",
                        "".join("-\n" if target == "-" else "=" + target + "\n" for target in targets))

    def check_unfit(self, document, number, targets):
        """That the first target that doesn't fit is the one of this number."""
        self.check([-5, NOT_FITTING, number], DOTS, ">" + document.replace("|", "") + "\n",
                   "".join("-\n" if target == "-" else "=" + target + "\n" for target in targets))

    def test_the_same_tags(self):
        for target in ("x{.1}", "{.1}", "{.1}x", "a b c{.1} d"):
            self.check_fit("a{.1}", [target])
        for target in ("", "a", "a{.2}", "a{.1}{.2}", "a{.1}{.1}", "a{+1}", "a{-1}", "{+1}a{-1}", "a{.10}", "a{{.1}"):
            self.check_unfit("a{.1}", 0, [target])
        for target in ("{.1}", "{+1}{-1}", "x{.999}"):
            self.check_unfit("a", 0, [target])

    def test_pairs(self):
        for target in ("{+1}{-1}", "x{+1}y{-1}z", "{+1}x y{-1}"):
            self.check_fit("{+1}a{-1}", [target])
        for target in ("{-1}a{+1}", "{+1}a", "a{-1}", "a", "{+1}a{-1}{+1}{-1}", "{+1}{+1}a{-1}", "{+1}a{-1}{-1}",
                       "{+2}a{-2}", "{+1}a{-2}", "{.1}a", "{+1}a{-1}{.1}", "{+1}{.2}a{-1}"):
            self.check_unfit("{+1}a{-1}", 0, [target])

    def test_another_order(self):
        for target in ("{.2}{.1}{.3}", "{.3}x{.2}y{.1}"):
            self.check_fit("{.1}a{.2}b{.3}", [target])
        for target in ("{+2}b{-2}{+1}a{-1}", "{+1}{+2}x{-2}{-1}", "{+2}x{+1}y{-1}z{-2}"):
            self.check_fit("{+1}a{-1}{+2}b{-2}", [target])
        for target in ("{+1}{+2}x{-1}{-2}", "{+2}{+1}{-2}{-1}", "{+1}{-2}{+2}{-1}"):
            self.check_unfit("{+1}a{-1}{+2}b{-2}", 0, [target])
        self.check_fit("{+1}a{.2}{-1}", ["{.2}{+1}a{-1}"])
        self.check_fit("{+1}{+2}a{-2}{-1}", ["{+2}{-2}x{+1}{-1}"])

    def test_a_right_half(self):
        for target in ("{+1}", "{+1}x", "x{+1}", "x{+1}y"):
            self.check_fit("{+1}a.|b{-1}", [target, "-"])
        for target in ("x", "{-1}x", "{+1}x{-1}", "{.1}x", "{+2}x", "{+1}x{+1}"):
            self.check_unfit("{+1}a.|b{-1}", 0, [target, "-"])

    def test_a_left_half(self):
        for target in ("{-1}", "{-1}x", "x{-1}", "x{-1}y"):
            self.check_fit("{+1}a.|b{-1}", ["-", target])
        for target in ("x", "{+1}x", "{+1}x{-1}", "{.1}x", "{-2}x", "{-1}x{-1}", "{-1}x{+1}"):
            self.check_unfit("{+1}a.|b{-1}", 1, ["-", target])

    def test_several_right_halves(self):
        document = "{+1}{+2}a.|b{-2}{-1}"
        for target in ("{+1}{+2}", "x{+1}y{+2}z"):
            self.check_fit(document, [target, "-"])
        for target in ("{+2}{+1}a.", "{+1}a.", "{+2}a.", "{+1}{+2}{-2}a"):
            self.check_unfit(document, 0, [target, "-"])

    def test_several_left_halves(self):
        document = "{+1}{+2}a.|b{-2}{-1}"
        for target in ("{-2}{-1}", "x{-2}y{-1}z"):
            self.check_fit(document, ["-", target])
        for target in ("{-1}{-2}b", "{-2}b", "{-1}b", "{-2}b{+1}{-1}"):
            self.check_unfit(document, 1, ["-", target])

    def test_left_and_right_halves(self):
        document = "{+1}a.|b{-1}c{+2}d.|e{-2}"
        for target in ("{-1}{+2}", "x{-1}{+2}y", "{-1}x{+2}"):
            self.check_fit(document, ["-", target, "-"])
        for target in ("{+2}{-1}", "{+2}x{-1}", "{-1}x", "x{+2}", "{-2}x{+1}", "{+1}{-1}x{+2}"):
            self.check_unfit(document, 1, ["-", target, "-"])
        self.check_fit(document, ["x{+1}", "{-1}{+2}", "{-2}y"])

    def test_halves_beside_pairs(self):
        document = "{+1}a.|b{-1}{+3}c{-3}{.4}"
        for target in ("{+3}{-3}{-1}{.4}", "{.4}{-1}{+3}x{-3}", "{-1}{+3}{.4}{-3}"):
            self.check_fit(document, ["-", target])
        for target in ("{+3}{-1}{-3}{.4}", "{-1}{-3}{+3}{.4}", "{+3}{.4}{-1}x{-3}"):
            self.check_unfit(document, 1, ["-", target])
        document = "{+1}a{+3}c{-3}.|b{-1}"
        for target in ("{+3}{-3}{+1}", "{+1}{+3}x{-3}"):
            self.check_fit(document, [target, "-"])
        for target in ("{+3}{+1}{-3}", "{+1}{-3}{+3}", "{+3}{-3}"):
            self.check_unfit(document, 0, [target, "-"])

    def test_a_pair_of_which_one_half_stays_behind(self):
        # In the segment both halves stand, in the target they'd be a left and a right half.
        self.check_unfit("a{+5}{-5}b", 0, ["a{-5}b{+5}"])

    def test_the_first_that_does_not_fit(self):
        self.check_unfit("a{.1}.|b{.2}.|c", 1, ["-", "x", "{.1}"])
        self.check_unfit("a{.1}.|b{.2}.|c", 0, ["x{.2}", "x{.1}", "-"])
        self.check_unfit("a{.1}.|b{.2}.|c", 2, ["{.1}", "-", "{.3}"])

    def test_the_line_is_the_targets(self):
        # Its number is counted among the targets' lines, not among the document's.
        self.check([-5, NOT_FITTING, 2], DOTS, "|\n>\n>a. b.\n|\n>c.\n", "-\n-\n={.1}\n")


class TargetsFault(PutCase):
    DOCUMENT = ">a. b.\n|raw.\n>{+1}c{-1}.\n"

    def check_table(self, table):
        self.check_faults(DOTS, self.DOCUMENT, table)

    def test_a_line_too_many(self):
        self.check_table([("-\n-\n-\n-\n", NOT_AS_MANY, 6), ("-\n-\n-\n=x\n", NOT_AS_MANY, 6),
                          ("=x\n-\n-\n-\n-\n", NOT_AS_MANY, 7)])
        for document in ("", "|a\n", "> \n"):
            self.check_faults(DOTS, document, [("-\n", NOT_AS_MANY, 0), ("=a\n", NOT_AS_MANY, 0)])

    def test_a_line_too_many_before_what_else_is_wrong_with_it(self):
        for line in ("\n", "z\n", "-x\n", "-", "=", "=a", "z", "={\n", "=" + "a" * 4097 + "\n", "={.1}\n"):
            self.check_table([("-\n-\n-\n" + line, NOT_AS_MANY, 6)])
            self.check_faults(DOTS, "", [(line, NOT_AS_MANY, 0)])

    def test_another_sign(self):
        self.check_table([(line, NO_TARGET, 0) for line in ("\n", "z\n", " -\n", "|a\n", ">a\n", "z", "+\n", "{\n")])
        self.check_table([("-\n\n-\n", NO_TARGET, 2), ("=x\nz\n-\n", NO_TARGET, 3), ("-\n-\n\n", NO_TARGET, 4),
                          ("=\u20ac\n ={\n", NO_TARGET, 5), (b"-\n\xff\n", NO_TARGET, 2)])

    def test_something_behind_a_segments_sign(self):
        self.check_table([("-x\n", NO_TARGET, 1), ("--\n", NO_TARGET, 1), ("- \n", NO_TARGET, 1), ("-x", NO_TARGET, 1),
                          ("-\n-=\n", NO_TARGET, 3), ("-\n-\n-{", NO_TARGET, 5), ("-\r\n", NO_TARGET, 1)])

    def test_the_last_line_not_ended(self):
        self.check_table([("-", NO_TARGET, 1), ("=", NO_TARGET, 1), ("=abc", NO_TARGET, 4), ("-\n-", NO_TARGET, 3),
                          ("-\n-\n-", NO_TARGET, 5), ("-\n-\n={+1}x{-1}", NO_TARGET, 14), ("-\n=\u20ac", NO_TARGET, 6)])

    def test_not_ended_before_all_of_the_row(self):
        self.check_table([("=a{", NO_TARGET, 3), ("={.0}x", NO_TARGET, 6), ("=\x00abc", NO_TARGET, 5),
                          ("={.1}", NO_TARGET, 5), ("=" + "a" * 4097, NO_TARGET, 4098), ("-\n-\n=x", NO_TARGET, 6)])

    def test_a_rows_fault(self):
        self.check_table([
            ("={\n", NO_ROW, 2), ("=a{.0}\n", NO_ROW, 4), ("={.1000}\n", NO_ROW, 6), ("={a}\n", NO_ROW, 2),
            ("=\x7f\n", NO_ROW, 1), ("=a\tb\n", NO_ROW, 2), (b"=\xc3\n", NO_ROW, 2), (b"=a\xe2\x82\n", NO_ROW, 4),
            (b"=\xed\xa0\x80\n", NO_ROW, 2), ("-\n={}\n", NO_ROW, 4), ("-\n-\n={+1}x{-1\n", NO_ROW, 13),
            ("=x\r\n", NO_ROW, 2), ("={+01}\n", NO_ROW, 3), (b"=a\xff\n", NO_ROW, 2),
        ])

    def test_a_rows_fault_before_its_pieces_and_its_tags(self):
        self.check_table([("=" + "a" * 4097 + "{\n", NO_ROW, 4099), ("={+1}{\n", NO_ROW, 6), ("={.7}\x00\n", NO_ROW, 5),
                          ("-\n=" + "a" * 5000 + "\x7f\n", NO_ROW, 5003)])

    def test_too_many_pieces(self):
        self.check_table([("=" + "a" * size + "\n", TOO_MANY_PIECES, 0) for size in (4097, 65535, 65536, 65537)])
        self.check_table([("-\n=" + "{{" * 4097 + "\n", TOO_MANY_PIECES, 2),
                          ("-\n-\n={+1}" + "a" * 4095 + "{-1}\n", TOO_MANY_PIECES, 4)])

    def test_too_many_pieces_before_tags(self):
        self.check_table([("={.7}" + "a" * 4096 + "\n", TOO_MANY_PIECES, 0),
                          ("-\n-\n=" + "a" * 4097 + "\n", TOO_MANY_PIECES, 4)])

    def test_a_target_that_does_not_fit(self):
        self.check_table([("={.1}\n", NOT_FITTING, 0), ("-\n=x{+1}\n", NOT_FITTING, 1),
                          ("=x\n-\n=c.\n", NOT_FITTING, 2)])

    def test_lines_too_few(self):
        self.check_table([("", NOT_AS_MANY, 0), ("-\n", NOT_AS_MANY, 2), ("=x\n-\n", NOT_AS_MANY, 5),
                          ("=\u20ac\n", NOT_AS_MANY, 5)])
        self.check_faults("", ">a\n", [("", NOT_AS_MANY, 0)])

    def test_the_first_wrong_line(self):
        self.check_table([
            ("z\n-x\n", NO_TARGET, 0), ("-x\nz\n", NO_TARGET, 1), ("={\nz\n-\n-\n", NO_ROW, 2),
            ("={.1}\n={\n", NOT_FITTING, 0), ("-\n={.1}\n={\n", NOT_FITTING, 1),
            ("=" + "a" * 4097 + "\n\n", TOO_MANY_PIECES, 0),
            ("-\n=x{.5}\n-\n-\n", NOT_FITTING, 1), ("-\n={.1}\n", NOT_FITTING, 1), ("-\n-\n-x\n-\n", NO_TARGET, 5),
        ])


class Room(PutCase):
    """-6: what the target document has too much of."""

    def test_pieces_of_a_paragraph(self):
        self.check_text(">" + "x" * 4093 + " b.\n", DOTS, ">a. b.\n", "=" + "x" * 4093 + "\n-\n")
        self.check([-6], DOTS, ">a. b.\n", "=" + "x" * 4094 + "\n-\n")
        self.check_text(">" + "x" * 2000 + " " + "y" * 2095 + "\n", DOTS, ">a. b.\n",
                        "=" + "x" * 2000 + "\n=" + "y" * 2095 + "\n")
        self.check([-6], DOTS, ">a. b.\n", "=" + "x" * 2000 + "\n=" + "y" * 2096 + "\n")
        self.check_text(">" + "x" * 4096 + "\n", "", ">a\n", "=" + "x" * 4096 + "\n")
        self.check([-6], "", "> a\n", "=" + "x" * 4096 + "\n")
        self.check([-6], "", ">a \n", "=" + "x" * 4096 + "\n")
        self.check_text("> " + "{{" * 4093 + "{.1} \n", "", "> a{.1} \n", "=" + "{{" * 4093 + "{.1}\n")
        self.check([-6], "", "> a{.1} \n", "=" + "{{" * 4094 + "{.1}\n")

    def test_what_the_segments_had_is_gone(self):
        document = ">" + "a" * 2047 + "." + "b" * 2048 + "\n"
        self.check_text(">" + "x" * 2048 + "b" * 2048 + "\n", DOTS, document, "=" + "x" * 2048 + "\n-\n")
        self.check([-6], DOTS, document, "=" + "x" * 2049 + "\n-\n")
        self.check_text(">" + "x" * 4096 + "\n", DOTS, document, "=" + "x" * 4096 + "\n=\n")
        self.check_text(">" + "x" * 4095 + "y\n", DOTS, document, "=" + "x" * 4095 + "\n=y\n")
        self.check([-6], DOTS, document, "=" + "x" * 4095 + "\n=yy\n")

    def test_each_paragraph_by_itself(self):
        long = "=" + "x" * 4096 + "\n"
        self.check_text((">" + "x" * 4096 + "\n") * 3, "", ">a\n>b\n>c\n", long * 3)
        self.check([-6], "", ">a\n>b \n>c\n", long * 3)
        self.check([-6], "", ">a\n>b\n> c\n", long * 3)

    def test_most_bytes_of_a_paragraph(self):
        # 4096 pieces never have 65536 bytes; these are as many as there can be.
        tags = "".join("{+%d}" % number for number in range(999, 0, -1))
        tags += "".join("{-%d}" % number for number in range(1, 1000))
        self.check_text(">" + "\U0001d11e" * (4096 - 1998) + tags + "\n", "", ">a" + tags + "\n",
                        "=" + "\U0001d11e" * (4096 - 1998) + tags + "\n")
        self.check([-6], "", "> a" + tags + "\n", "=" + "\U0001d11e" * (4096 - 1998) + tags + "\n")
        self.check([-6], "", "> a\n", "=" + "\U0001d11e" * 4096 + "\n")

    def test_behind_all_other_faults(self):
        document = ">a. b.\n>c.\n"
        long = "=" + "x" * 4096 + "\n"
        self.check([-6], DOTS, document, long + "-\n-\n")
        for rest, kind, place in (("z\n", NO_TARGET, 4098), ("-x\n", NO_TARGET, 4099), ("={\n", NO_ROW, 4100),
                                  ("=" + "a" * 4097 + "\n", TOO_MANY_PIECES, 4098), ("={.1}\n", NOT_FITTING, 1),
                                  ("", NOT_AS_MANY, 4098), ("-\n-\n-\n", NOT_AS_MANY, 4102), ("-", NO_TARGET, 4099)):
            self.check([-5, kind, place], DOTS, document, long + rest)
        self.check([-5, NOT_FITTING, 2], DOTS, document, long + long + "={.1}\n")

    def test_as_much_as_may_be_handed_in(self):
        target = "\U0001d11e" * 4096
        document = ("|" + target + "\n") * 6 + ">a\n" * 6 + "|" + "\U0001d11e" * 2916 + "\n"
        self.assertEqual(len(utf8(document)), 110000)
        self.check_text(document.replace("a", target), "", document, ("=" + target + "\n") * 6)
        self.check_text(">xyz\n" * 16384, "", ">a\n" * 16384, "=xyz\n" * 16384)
        document = (">" + "a" * 4096 + "\n") * 13 + ">" + "a" * 1752 + "\n"
        self.check_text(document, "+ |\n", document, "-\n" * 55000)
        self.check_text(document.replace("a", "x", 36666), "+ |\n", document, "=x\n" * 36666 + "-\n" * 18334)

class Refusals(RefusedDocuments, PutCase):
    def refuses(self, answer, rules_text, document):
        # Whatever the targets are: they come behind.
        for targets in ("", "-\n", "z"):
            self.check(answer, rules_text, document, targets)

    def test_faults_of_rules_at_their_places(self):
        for rules_text, place in (("x", 0), ("+", 1), ("+ |", 3), ("+ |\n- . |\n+ | x\n", 14), ("%0 1-0\n", 5),
                                  ("%16 1-1\n", 2), ("+ %0 |\n", 2), ("+ .*1-1 |\n", 7), ('+ "" |\n', 3)):
            self.check([-5, NO_RULES, place], rules_text, ">a\n", "-\n")

    def test_right_documents_and_wrong_ones(self):
        for document, place in FAULTY_DOCUMENTS:
            self.check([-5, NO_DOCUMENT, place], "+ |\n", document, "")


class BeyondWhatIsHandedIn(PutCase):
    """The document's own bounds for d, x and the target document, which lie above those of the interface."""

    def test_bytes_of_a_document(self):
        line = "|" + "a" * 4094 + "\n"
        self.check_text(line * 64, "", line * 64, "")
        self.check([-6], "x", line * 64 + "|", "z")

    def test_bytes_of_targets(self):
        line = "=" + "a" * 4094 + "\n"
        document = ">a\n" * 63
        self.check_text(line.replace("=", ">") * 63, "", document, line * 63)
        self.check([-5, NOT_AS_MANY, 258048], "", document, line * 64)
        self.check([-6], "x", "x", line * 64 + "-")

    def test_bytes_of_the_target_document(self):
        document = ("|" + "a" * 4094 + "\n") * 63 + ">a\n"
        self.check_text(document[:-2] + "x" * 4094 + "\n", "", document, "=" + "x" * 4094 + "\n")
        self.check([-6], "", document, "=" + "x" * 4095 + "\n")
        self.check([-6], "", document, "=" + "\u20ac" * 2000 + "\n")


class OneCallByItself(PutCase):
    def test_nothing_is_kept(self):
        asked = [(DOTS, ">a. b\n", "=x\n-\n", [0, 5, 62, 120, 32, 98, 10]), ("", ">a. b\n", "=x\n-\n", [-5, 5, 3]),
                 ("", ">a. b\n", "=x\n", [0, 3, 62, 120, 10]), (DOTS, ">a. b\n", "-\n=\n", [0, 5, 62, 97, 46, 32, 10]),
                 ("x", ">a\n", "-\n", [-5, 6, 0]), ("", "x", "-\n", [-5, 7, 0]), ("", "", "", [0, 0]),
                 ("", ">{.1}a\n", "=a{.1}\n", [0, 7, 62, 97, 123, 46, 49, 125, 10]),
                 ("", ">a\n", "={.1}\n", [-5, 4, 0]), ("+ |\n" * 257, "x", "x", [-6])]
        for rules_text, document, targets, answer in asked + asked[::-1] + asked:
            self.check(answer, rules_text, document, targets)


class AgainstTheDefinition(PutCase):
    """Small rules, documents and targets, compared with what the document's words say when followed one by one."""

    def small_target(self, source, text):
        """A line of targets for a segment of this text, of which much is wrong."""
        pieces = pieces_of(text)
        source.shuffle(pieces)
        if source.random() < 0.2:
            wrong = ["{.1}", "{+2}", "{-2}", "{", "{.0}", "{-", "\x00", "\n"]
            pieces.insert(source.randint(0, len(pieces)), source.choice(wrong))
        kind = source.random()
        if kind < 0.3:
            return "-" + source.choice(["\n"] * 12 + ["", "x\n"])
        return ("" if kind < 0.33 else "=") + "".join(pieces) + source.choice(["\n"] * 15 + ["", "\n\n", "\n-\n"])

    def test_small_targets(self):
        source = random.Random(20261130)
        kinds = collections.Counter()
        for turn in range(800):
            classes, rules = small_rules(source)
            document = small_document(source)
            sources = sources_of(document, classes, rules)
            targets = "".join(self.small_target(source, text) for text in sources)
            fault = targets_fault(targets.encode("utf-8"), sources)
            kinds[fault and fault[0]] += 1
            rules_text, text = write_rules(classes, rules), write_document(document)
            with self.subTest(rules=rules_text, document=text, targets=targets):
                if fault:
                    self.check([-5, *fault], rules_text, text, targets)
                else:
                    lines = [None if line == "-" else line[1:] for line in targets.split("\n")[:-1]]
                    self.check_text(target_text(document, classes, rules, lines), rules_text, text, targets)
        self.assertGreater(min(kinds[kind] for kind in (None, NO_TARGET, NO_ROW, NOT_FITTING, NOT_AS_MANY)), 20, kinds)

    def test_small_changes_of_documents(self):
        source = random.Random(20261201)
        changes = [b"", b"\n", b"|", b">", b"{", b"}", b"{.1}", b"{+2}", b"{-2}", b"0", b"\x00", b"\xc3", b"\xe2\x82"]
        places = 0
        for turn in range(500):
            data = bytearray(write_document(small_document(source)).encode("utf-8"))
            for change in range(source.randint(1, 2)):
                place = source.randint(0, len(data))
                data[place:place + source.randint(0, 2)] = source.choice(changes)
            fault = document_fault(bytes(data))
            with self.subTest(document=bytes(data)):
                if fault is None:
                    self.assertEqual(segs([], list(data))[0], 0)
                else:
                    self.check([-5, NO_DOCUMENT, fault], "", bytes(data), "")
                    places += 1
        self.assertGreater(places, 100)


if __name__ == "__main__":
    unittest.main()
