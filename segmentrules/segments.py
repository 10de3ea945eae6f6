"""The calls: what each answers, or the refusal that comes first.

-6 refuses a text that is too large, -5 one that is none of its kind, -2 what is not there.
"""

from segmentrules.cutting import deciding_rule
from segmentrules.documenttext import MOST_DOCUMENT_BYTES, read_document
from segmentrules.errors import NO_DOCUMENT, NO_RULES, Fault, FaultOfKind, Refusal, TooLarge, read_as
from segmentrules.forms import of_earlier_form, words_in
from segmentrules.parting import glue_beside, numbered, of_number, segments_by_line, segments_of
from segmentrules.rowtext import characters_of, checked_row
from segmentrules.rulestext import checked_rules
from segmentrules.targets import read_targets, target_document

MOST_RULES_BYTES = 65536
MOST_ROW_BYTES = 65536
MOST_TARGETS_BYTES = 262144


def check_size(text, most):
    """Refuse a text of more bytes than its kind may have."""
    if len(text) > most:
        raise TooLarge()


def rules_and_row(t, r):
    """The rules and the row that have these texts; a Refusal, the first that holds, if one is not right."""
    check_size(t, MOST_RULES_BYTES)
    check_size(r, MOST_ROW_BYTES)
    rule_set = checked_rules(t)
    return rule_set, checked_row(r)


def row_and_segments(t, r):
    """The row that has the text r, and the segments that the rules t make of it; a Refusal as above."""
    rule_set, row = rules_and_row(t, r)
    return row, segments_of([row], rule_set)[0]


def lines_and_segments(t, d):
    """The document's lines that have the text d, and of each the segments that the rules t make; a Refusal as above."""
    check_size(t, MOST_RULES_BYTES)
    check_size(d, MOST_DOCUMENT_BYTES)
    rule_set = read_as(NO_RULES, lambda: checked_rules(t))
    lines = read_as(NO_DOCUMENT, lambda: read_document(d))
    return lines, segments_by_line(lines, rule_set)


def document_segments(t, d):
    """The segments that the rules t make of the document d, each behind its line's number; a Refusal as above."""
    return numbered(lines_and_segments(t, d)[1])


def counted(text):
    """How many bytes the text has, and they."""
    return [len(text)] + text


def rules(t):
    """How many rules t has; behind -5 stands the fault's place."""
    try:
        check_size(t, MOST_RULES_BYTES)
        rule_set = checked_rules(t)
    except Fault as fault:
        return [fault.number, fault.place]
    except Refusal as refusal:
        return [refusal.number]
    return [len(rule_set.rules)]


def count(t, r):
    """How many segments the rules t make of the paragraph r."""
    try:
        row, segments = row_and_segments(t, r)
    except Refusal as refusal:
        return [refusal.number]
    return [len(segments)]


def rule(p, t, r):
    """Twice the number of the rule of t that decides at place p of the paragraph r, and 1 more if it cuts."""
    try:
        rule_set, row = rules_and_row(t, r)
        number = deciding_rule(p, characters_of(row), rule_set)
    except Refusal as refusal:
        return [refusal.number]
    return [2 * number + (1 if rule_set.rules[number].cuts else 0)]


def seg(k, t, r):
    """0, and of the paragraph r's segment k where it begins and ends in the row, how many bytes it has, and they."""
    try:
        row, segments = row_and_segments(t, r)
        segment = of_number(k, segments)
    except Refusal as refusal:
        return [refusal.number]
    return [0, segment.first, segment.behind] + counted(segment.text)


def glue(k, t, r):
    """0, and of the paragraph r's glue k, which is before the segment k, how many bytes it has, and they."""
    try:
        row, segments = row_and_segments(t, r)
        between = of_number(k, glue_beside(segments, row))
    except Refusal as refusal:
        return [refusal.number]
    return [0] + counted(between.text)


def segs(t, d):
    """0, and of the document d's segments how many there are, and how many words, forms met before, and pieces."""
    try:
        found = [segment.pieces for line, segment in document_segments(t, d)]
    except Refusal as refusal:
        return [refusal.number]
    words = sum([words_in(pieces) for pieces in found])
    return [0, len(found), words, of_earlier_form(found), sum([len(pieces) for pieces in found])]


def nth(k, t, d):
    """0, and of the document d's segment k its line, where it begins and ends there, how many bytes it has, they."""
    try:
        line, segment = of_number(k, document_segments(t, d))
    except Refusal as refusal:
        return [refusal.number]
    return [0, line, segment.first, segment.behind] + counted(segment.text)


def put(t, d, x):
    """0, and how many bytes the target document has, and they; behind -5 stands which text has a fault, and where."""
    try:
        check_size(x, MOST_TARGETS_BYTES)
        lines, by_line = lines_and_segments(t, d)
        targets = read_targets(x, [segment for line, segment in numbered(by_line)])
        text = target_document(lines, by_line, targets)
    except FaultOfKind as fault:
        return [fault.number, fault.kind, fault.place]
    except Refusal as refusal:
        return [refusal.number]
    return [0] + counted(text)
