"""The calls: what each answers, or the refusal that comes first.

-6 refuses a text that is too large, -5 one that is none of its kind.
"""

from segmentrules.cutting import segment_count
from segmentrules.errors import BeyondBounds, Fault, NotPaired
from segmentrules.rowtext import checked_row
from segmentrules.rulestext import checked_rules

MOST_RULES_BYTES = 65536
MOST_ROW_BYTES = 65536


def rules(t):
    """How many rules t has; behind -5 stands the fault's place."""
    if len(t) > MOST_RULES_BYTES:
        return [-6]
    try:
        rule_set = checked_rules(t)
    except Fault as fault:
        return [-5, fault.place]
    except BeyondBounds:
        return [-6]
    return [len(rule_set.rules)]


def count(t, r):
    """How many segments the rules t make of the paragraph r."""
    if len(t) > MOST_RULES_BYTES or len(r) > MOST_ROW_BYTES:
        return [-6]
    try:
        rule_set = checked_rules(t)
        row = checked_row(r)
    except Fault:
        return [-5]
    except BeyondBounds:
        return [-6]
    except NotPaired:
        return [-5]
    return [segment_count(row, rule_set)]
