"""The call segs: what is counted of a document's segments, or why it is refused."""

import random
import re
import unittest

from helper import (Asking, RefusedDocuments, full_text, segments, small_document, small_rules, utf8, write_document,
                    write_rules)
from segmentrules.segments import count, segs

SENTENCES = '%0 65-90\n- "z." | " B."\n+ "." | " " %0\n+ "!" | " "\n'

# The signs, first and last of each range; and the numbers beside them that are characters, but no blanks.
SIGN_RANGES = [(0x21, 0x2F), (0x3A, 0x40), (0x5B, 0x60), (0x7B, 0x7E), (0xA1, 0xBF), (0xD7, 0xD7), (0xF7, 0xF7),
               (0x2010, 0x206F), (0x3000, 0x303F)]
BESIDE_SIGNS = [0x30, 0x39, 0x41, 0x5A, 0x61, 0x7A, 0xA0, 0xC0, 0xD6, 0xD8, 0xF6, 0xF8, 0x200F, 0x2070, 0x2FFF, 0x3040]

WORD = re.compile("[^ !-/:-@[-`{-~\u00a1-\u00bf\u00d7\u00f7\u2010-\u206f\u3000-\u303f]+")


def words_in(pieces):
    """How many words are among the pieces, which are as for `write_row`."""
    return len(WORD.findall("".join(" " if isinstance(piece, tuple) else piece for piece in pieces)))


def of_one_form(one, other):
    """Whether the rows are alike but for their tags' numbers, each of which stands for one of the other's."""
    if len(one) != len(other):
        return False
    pairs = set()
    for piece, beside in zip(one, other):
        if isinstance(piece, tuple) and isinstance(beside, tuple) and piece[0] == beside[0]:
            pairs.add((piece[1], beside[1]))
        elif piece != beside:
            return False
    return len(pairs) == len({first for first, second in pairs}) == len({second for first, second in pairs})


def counted(document, classes, rules):
    """What segs is to answer for a document that is as for `write_document`."""
    found = [pieces for line in document if not isinstance(line, str)
             for first, behind, pieces in segments(line, classes, rules)]
    again = sum(any(of_one_form(earlier, pieces) for earlier in found[:number]) for number, pieces in enumerate(found))
    return [0, len(found), sum(words_in(pieces) for pieces in found), again, sum(len(pieces) for pieces in found)]


def character(number):
    """The character's text in a row."""
    return "{{" if number == 0x7B else chr(number)


class SegsCase(Asking):
    """Tests of segs."""

    def check(self, expected, rules_text, document):
        self.check_call(expected, segs, rules_text, document)

    def check_documents(self, rules_text, table):
        """A table of documents, and what is answered of each behind the 0."""
        for document, numbers in table:
            with self.subTest(rules=rules_text, document=document):
                self.check([0] + numbers, rules_text, document)


class Ordinary(SegsCase):
    def test_raw_lines_and_paragraphs(self):
        self.check_documents(SENTENCES, [
            ("|Title. It\n>One two. Three.\n|\n>Four\n", [3, 4, 0, 18]),
            (">One two. Three.\n>Four. It\n", [4, 5, 0, 21]),
            ("|<p>\n|{+1}\n>One\n|</p>\n", [1, 1, 0, 3]),
        ])

    def test_without_a_segment(self):
        for rules_text in ("", "+ |\n", "- |\n"):
            for document in ("", "|\n", ">\n", "|a b. c\n", "|\n>\n|\n>\n", "|{\n|>a\n||\n", ">{.1}\n|a\n",
                             ">   \n> {+1} {-1}{.2}\n"):
                self.check([0, 0, 0, 0, 0], rules_text, document)

    def test_several_segments_in_a_line(self):
        self.check_documents('+ "." |\n', [
            (">a. b. c\n", [3, 3, 0, 5]), ("> a. b. c. \n", [3, 3, 0, 6]), (">a.b.c\n", [3, 3, 0, 5]),
            (">a b. c d e.\n", [2, 5, 0, 10]),
        ])

    def test_segments_over_several_lines(self):
        self.check_documents('+ "." |\n', [
            (">a. b.\n>c.\n|d. e.\n>f. g. h.\n", [6, 6, 0, 12]), (">a\n>b\n>c\n", [3, 3, 0, 3]),
            (">\n>a. b\n>\n", [2, 2, 0, 3]),
        ])

    def test_each_line_by_itself(self):
        # No rule looks beyond a line; each line has its beginning and its end.
        self.check_documents('+ "a" | "b"\n', [(">a\n>b\n", [2, 2, 0, 2]), (">ab\n", [2, 2, 0, 2]),
                                               (">aa\n>bb\n", [2, 2, 0, 4])])
        self.check_documents('+ ^ "a" |\n', [(">aaa\n>aa\n>ba\n", [5, 5, 2, 7])])
        self.check_documents('+ | "a" $\n', [(">aaa\n>aa\n>ab\n>a\n", [6, 6, 3, 8])])
        self.check_documents("+ ^ .*2-2 | .*2-2 $\n", [(">abcd\n>abc\n>abcde\n>wxyz\n>ab\n>cd\n", [8, 8, 2, 20])])
        self.check_documents('+ "a"*2-32 |\n', [(">a\n>a\n>a\n>a\n", [4, 4, 3, 4]),
                                               (">aab\n|\n>aab\n>ab\n", [5, 5, 2, 8])])
        self.check_documents('%3 98-98\n- | %3 %3\n+ | .\n', [(">abb\n>a\n>b\n>bb\n", [6, 6, 3, 7])])

    def test_tags_are_no_characters_for_rules(self):
        self.check_documents('+ "ab" |\n', [(">a{.1}bc\n>a{+1}b{-1}c\n", [4, 6, 1, 9])])


class Words(SegsCase):
    def test_blanks(self):
        self.check_documents("", [(">a\n", [1, 1, 0, 1]), (">a b\n", [1, 2, 0, 3]), (">ab  cd e\n", [1, 3, 0, 8]),
                                  ("> ab \n", [1, 1, 0, 2])])

    def test_signs(self):
        self.check_documents("", [
            (">a.b\n", [1, 2, 0, 3]), (">...\n", [1, 0, 0, 3]), (">a, b; c!\n", [1, 3, 0, 8]),
            (">it's\n", [1, 2, 0, 4]), (">.a.\n", [1, 1, 0, 3]), (">a - b\n", [1, 2, 0, 5]),
            (">a{{b\n", [1, 2, 0, 3]), (">{{\n", [1, 0, 0, 1]),
            (">\u00bfa\u00d7b\u2014c\u3002\n", [1, 3, 0, 7]), (">a_b1 2c\n", [1, 3, 0, 7]),
        ])

    def test_tags(self):
        self.check_documents("", [
            (">a{.1}b\n", [1, 2, 0, 3]), (">a{+1}b{-1}c\n", [1, 3, 0, 5]), (">{.1}a{.2}\n", [1, 1, 0, 3]),
            (">a{+1}{-1}b\n", [1, 2, 0, 4]), (">a{.1} b\n", [1, 2, 0, 4]), (">{.12}.\n", [1, 0, 0, 2]),
        ])

    def test_words_within_segments_alone(self):
        self.check_documents("+ |\n", [(">abc\n", [3, 3, 0, 3]), (">a b.\n", [3, 2, 0, 3])])
        self.check_documents("", [("|a b c\n>a\n|d\n", [1, 1, 0, 1]), (">a\n>b\n", [2, 2, 0, 2])])

    def test_the_first_and_the_last_signs_of_each_range(self):
        for low, high in SIGN_RANGES:
            for number in {low, high, (low + high) // 2}:
                with self.subTest(sign=hex(number)):
                    self.check([0, 1, 2, 0, 3], "", ">a" + character(number) + "b\n")
                    self.check([0, 1, 0, 0, 1], "", ">" + character(number) + "\n")

    def test_the_numbers_beside_signs(self):
        for number in BESIDE_SIGNS:
            with self.subTest(number=hex(number)):
                self.check([0, 1, 1, 0, 3], "", ">a" + character(number) + "b\n")
                self.check([0, 1, 1, 0, 1], "", ">" + character(number) + "\n")

    def test_every_character_up_to_3fff(self):
        numbers = [number for number in range(0x21, 0x4000) if not 0x7F <= number <= 0x9F]
        for start in range(0, len(numbers), 1024):
            block = numbers[start:start + 1024]
            words = sum(1 if any(low <= number <= high for low, high in SIGN_RANGES) else 0 for number in block)
            # Between the letters a sign parts what any other character joins.
            document = ">a" + "a".join(character(number) for number in block) + "a\n"
            self.check([0, 1, 1 + words, 0, 2 * len(block) + 1], "", document)

    def test_characters_far_above(self):
        for number in (0x20AC, 0x2190, 0xFF01, 0xFFFD, 0x1F600, 0x1D11E, 0x1203D, 0x10FFFD):
            self.check([0, 1, 1, 0, 3], "", ">a" + chr(number) + "b\n")


class Forms(SegsCase):
    def check_again(self, table):
        """A table of rows that are segments, and how many of them are of one form with an earlier one."""
        for rows, number in table:
            document = "".join(">" + row + "\n" for row in rows)
            with self.subTest(rows=rows):
                answer = self.ask(segs, [], utf8(document))
                self.assertEqual(answer[:2] + answer[3:4], [0, len(rows), number])

    def test_alike(self):
        self.check_again([(["a", "a"], 1), (["a", "b"], 0), (["a b.", "a b.", "a b"], 1), (["a{.1}", "a{.1}"], 1),
                          (["a", "A"], 0), (["a b", "a  b"], 0), (["ab", "a"], 0), (["{{", "}"], 0)])

    def test_alike_but_for_the_numbers(self):
        self.check_again([
            (["a{.1}", "a{.2}"], 1), (["{+1}a{-1}", "{+999}a{-999}"], 1), (["a{.1}{.2}b", "a{.7}{.3}b"], 1),
            (["{+1}a{+2}b{-2}{-1}", "{+2}a{+1}b{-1}{-2}"], 1), (["{+1}a{-1}{.2}", "{+2}a{-2}{.1}"], 1),
            (["{+5}a{-5}{+6}b{-6}", "{+6}a{-6}{+5}b{-5}", "{+10}a{-10}{+100}b{-100}"], 2),
        ])

    def test_alike_but_for_where_numbers_stand(self):
        self.check_again([
            (["{+1}{-1}{+2}{-2}a", "{+1}{+2}{-2}{-1}a"], 0), (["{+1}a{-1}b{.2}", "{.2}a{+1}b{-1}"], 0),
            (["{+1}a{+2}{-2}{-1}", "{+1}a{-1}{+2}{-2}"], 0),
        ])

    def test_alike_but_for_the_kinds_of_tags(self):
        self.check_again([(["a{.1}{.2}", "a{+1}{-1}"], 0), (["a{.1}", "a"], 0), (["a{.1}", "{.1}a"], 0),
                          (["{.1}a{+2}{-2}", "{+2}{-2}a{.1}"], 0), (["1{.1}", "{.1}1"], 0)])

    def test_characters_are_no_tags_numbers(self):
        # The characters of the numbers 1 and up, and of the tags' signs, aren't mistaken for tags.
        self.check_again([(["a{.32}", "a ."], 0), (["a{.1}", "a+"], 0), (["a{.1}", "a{{.1}"], 0)])

    def test_numbers_of_segments_with_halves(self):
        # Cut in two, the second segments begin with close tags.
        self.check([0, 4, 4, 2, 12], '+ "a" |\n', ">{+1}{+2}ab{-2}{-1}\n>{+7}{+3}ab{-3}{-7}\n")
        self.check([0, 4, 4, 0, 12], '+ "a" |\n', ">{+1}{+2}ab{-2}{-1}\n>{+1}{+2}a{-2}b{-1}\n")
        self.check([0, 6, 6, 3, 10], "+ |\n", ">{+1}{+2}aaa{-2}{-1}\n>aaa\n")

    def test_a_form_three_times(self):
        self.check_again([(["a", "a", "a"], 2), (["a", "b", "a", "b", "a"], 3), (["a{.1}", "a{.2}", "b", "a{.3}"], 2)])
        self.check([0, 6, 6, 4, 12], '+ "." |\n', ">a. a. b.\n|a.\n>b. a. a.\n")

    def test_in_one_line_and_over_lines(self):
        self.check_documents('+ "." |\n', [(">a.a.\n", [2, 2, 1, 4]), (">a.\n>a.\n", [2, 2, 1, 4]),
                                           ("|a.\n>a.\n", [1, 1, 0, 2]), (">{+1}a.{-1}{+2}a.{-2}\n", [2, 2, 1, 8])])

    def test_glue_is_no_part(self):
        self.check_documents('+ "." |\n', [(">a.   a. \n>  a.\n", [3, 3, 2, 6]), (">a. {.1} a.\n", [2, 2, 0, 6])])


class Pieces(SegsCase):
    def test_pieces(self):
        self.check_documents("", [
            (">abc\n", [1, 1, 0, 3]), (">\u00e4\u20ac\U0001d11e\n", [1, 1, 0, 3]), (">{{{{\n", [1, 0, 0, 2]),
            (">a{.999}\n", [1, 1, 0, 2]), ("> {+1} a{-1} \n", [1, 1, 0, 4]), (">ab\n|abc\n>c\n", [2, 2, 0, 3]),
        ])


class Bounds(SegsCase):
    def test_lines(self):
        self.check([0, 0, 0, 0, 0], "+ |\n", "|\n" * 16384)
        self.check([0, 0, 0, 0, 0], "+ |\n", ">\n" * 16384)
        self.check([0, 16384, 16384, 16383, 16384], "+ |\n", ">a\n" * 16384)
        self.check([0, 8192, 8192, 8191, 8192], "+ |\n", "|a\n>a\n" * 8192)
        for line in ("|\n", ">\n", ">a\n"):
            self.check([-5], "", line * 16385)

    def test_characters_of_a_raw_line(self):
        for character_text in ("a", "{", "\u20ac", "\U0001d11e"):
            self.check([0, 0, 0, 0, 0], "", "|" + character_text * 4096 + "\n")
            self.check([-5], "", "|" + character_text * 4097 + "\n")
        self.check([0, 1, 1, 0, 1], "", "|" + "a" * 4096 + "\n>a\n|" + "b" * 4096 + "\n")

    def test_pieces_of_a_paragraph(self):
        for piece, words in (("a", 1), ("{{", 0), ("\U0001d11e", 1)):
            self.check([0, 1, words, 0, 4096], "", ">" + piece * 4096 + "\n")
            self.check([-5], "", ">" + piece * 4097 + "\n")
        tags = "{+1}{-1}"
        self.check([0, 1, 1, 0, 4096], "", ">" + tags + "a" * 4094 + "\n")
        self.check([-5], "", ">" + tags + "a" * 4095 + "\n")
        self.check([0, 2, 2, 1, 8192], "", (">" + "a" * 4096 + "\n") * 2)

    def test_bytes_of_a_paragraph(self):
        # So long a row has too many pieces at any rate.
        for size in (65535, 65536, 65537):
            self.check([-5], "", ">" + "a" * size + "\n")
        self.check([-5], "", ">" + "\U0001d11e" * 16384 + "\n")

    def test_bytes_of_rules(self):
        self.check([0, 1, 2, 0, 3], full_text(65536), ">a b\n")
        self.check([-6], full_text(65537), ">a b\n")

    def test_as_much_as_may_be(self):
        lines = ">" + "a" * 4096 + "\n"
        document = lines * 26 + ">" + "a" * 3450 + "\n"
        self.assertEqual(len(document), 110000)
        self.check([0, 109946, 109946, 109945, 109946], "+ |\n", document)
        rules_text = '- ^ "a"*32-32 "ab"*32-32 |\n' + '- "a"*32-32 "b" | .*30-31\n' * 15 + "+ .*24-24 |\n"
        self.check([0, 109946 - 27 * 23, 109946 - 27 * 23, 109944 - 27 * 23, 109946], rules_text, document)


class Refusals(RefusedDocuments, SegsCase):
    def refuses(self, answer, rules_text, document):
        self.check(answer[:1], rules_text, document)


class OneCallByItself(SegsCase):
    def test_nothing_is_kept(self):
        asked = [("+ |\n", ">aba\n", [0, 3, 3, 1, 3]), ("", ">aba\n", [0, 1, 1, 0, 3]), ("x", ">a\n", [-5]),
                 ("", "x", [-5]), ("%0 97-97\n+ %0 |\n", ">abba\n", [0, 2, 2, 0, 4]),
                 ("%0 98-98\n+ %0 |\n", ">abba\n", [0, 3, 3, 0, 4]), ("", "", [0, 0, 0, 0, 0]),
                 ("+ |\n", ">{+1}\n", [-5]), ("+ |\n" * 257, "", [-6])]
        for rules_text, document, answer in asked + asked[::-1] + asked:
            self.check(answer, rules_text, document)


class AgainstTheDefinition(SegsCase):
    """Small rules and documents, compared with what the document's words say when followed one by one."""

    def test_small_rules_and_documents(self):
        source = random.Random(20261126)
        for turn in range(300):
            classes, rules = small_rules(source)
            document = small_document(source)
            rules_text, text = write_rules(classes, rules), write_document(document)
            with self.subTest(rules=rules_text, document=text):
                self.check(counted(document, classes, rules), rules_text, text)

    def test_segments_are_the_paragraphs_own(self):
        source = random.Random(20261127)
        for turn in range(100):
            rules_text = write_rules(*small_rules(source))
            text = write_document(small_document(source))
            counts = [count(utf8(rules_text), utf8(line[1:]))[0] for line in text.split("\n") if line[:1] == ">"]
            with self.subTest(rules=rules_text, document=text):
                self.assertEqual(segs(utf8(rules_text), utf8(text))[:2], [0, sum(counts)])


if __name__ == "__main__":
    unittest.main()
