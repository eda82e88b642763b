"""Ways: how lines are wished for."""

from brokenlinesdesk.bits import has_bit

BREAK_ALL = 2
KEEP_ALL = 3
WORDS_ASKED = 4
EASTERN = 5
SPLIT = 6

STRICT = 0
LOOSE = 2

# Bits 0 to 6 and 8 to 13: no other may be set.
KNOWN_BITS = 0x3F7F


def is_ways(number):
    if number | KNOWN_BITS != KNOWN_BITS or number & 3 > LOOSE:
        return False
    return not (has_bit(number, BREAK_ALL) and has_bit(number, KEEP_ALL))


class Ways:
    def __init__(self, number):
        self.strict = number & 3 == STRICT
        self.loose = number & 3 == LOOSE
        self.break_all = has_bit(number, BREAK_ALL)
        self.keep_all = has_bit(number, KEEP_ALL)
        self.by_words = has_bit(number, WORDS_ASKED)
        self.eastern = has_bit(number, EASTERN)
        self.splits = has_bit(number, SPLIT)
        self.tab = number >> 8 & 63
