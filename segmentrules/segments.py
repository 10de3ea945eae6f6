"""The calls: what each answers, or the refusal that comes first.

-6 refuses a text that is too large, -5 one that is none of its kind, -2 what is not there.
"""

from segmentrules.cutting import deciding_rule
from segmentrules.errors import Fault, Refusal, TooLarge
from segmentrules.parting import segment_of, segments_of
from segmentrules.rowtext import characters_of, checked_row
from segmentrules.rulestext import checked_rules

MOST_RULES_BYTES = 65536
MOST_ROW_BYTES = 65536


def rules_and_row(t, r):
    """The rules and the row that have these texts; a Refusal, the first that holds, if one is not right."""
    if len(t) > MOST_RULES_BYTES or len(r) > MOST_ROW_BYTES:
        raise TooLarge()
    rule_set = checked_rules(t)
    return rule_set, checked_row(r)


def rules(t):
    """How many rules t has; behind -5 stands the fault's place."""
    try:
        if len(t) > MOST_RULES_BYTES:
            raise TooLarge()
        rule_set = checked_rules(t)
    except Fault as fault:
        return [fault.number, fault.place]
    except Refusal as refusal:
        return [refusal.number]
    return [len(rule_set.rules)]


def count(t, r):
    """How many segments the rules t make of the paragraph r."""
    try:
        rule_set, row = rules_and_row(t, r)
    except Refusal as refusal:
        return [refusal.number]
    return [len(segments_of(row, rule_set))]


def rule(p, t, r):
    """Twice the number of the rule of t that decides at place p of the paragraph r, and 1 more if it cuts."""
    try:
        rule_set, row = rules_and_row(t, r)
        number = deciding_rule(p, characters_of(row), rule_set)
    except Refusal as refusal:
        return [refusal.number]
    return [2 * number + (1 if rule_set.rules[number].cuts else 0)]


def seg(k, t, r):
    """0, and of the paragraph r's segment k where it begins and ends in the row, how many bytes it has, and they."""
    try:
        rule_set, row = rules_and_row(t, r)
        first, behind = segment_of(k, row, rule_set)
    except Refusal as refusal:
        return [refusal.number]
    text = row.text_between(first, behind)
    return [0, first, behind, len(text)] + text
