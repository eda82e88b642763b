"""A text parted into units: a scalar and the marks behind it."""

from brokenlinesdesk.classes import AL, BK, CM, CR, LF, NL, SA, ZWJ, first_class, line_class, stands_alone
from brokenlinesdesk.kinds import CN, FULL, GENERAL, HALF, PF, PI, PICTOGRAPHIC, WIDE, WIDTH

RING = 0x25CC
SOFT = 0x2010

# The class of a unit that isn't there: no rule names it.
NOTHING = -1


class Unit:
    def __init__(self, kind, begin, end):
        self.kind = kind
        self.begin = begin
        self.end = end
        self.joined = False
        self.spaceless = False
        self.east = False
        self.initial = False
        self.final = False
        self.ring = False
        self.soft = False
        self.unassigned = False


def no_unit():
    return Unit(NOTHING, 0, 0)


def is_east(book, kind, scalar):
    return kind not in (BK, CR, LF, NL) and book.value(WIDTH, scalar) in (HALF, WIDE, FULL)


def make_unit(book, text, kinds, begin, end):
    kind = kinds[begin]
    scalar = text[begin]
    is_mark = kind in (CM, ZWJ)
    unit = Unit(AL if is_mark else kind, begin, end)
    general = book.value(GENERAL, scalar)
    unit.joined = kinds[end - 1] == ZWJ
    unit.spaceless = first_class(book, scalar) == SA
    unit.east = is_east(book, kind, scalar)
    unit.initial = general == PI
    unit.final = general == PF
    unit.ring = scalar == RING and kind not in (BK, CR, LF, NL, CM, ZWJ)
    unit.soft = scalar == SOFT and not is_mark
    unit.unassigned = general == CN and book.has_flag(PICTOGRAPHIC, scalar) and not is_mark
    return unit


def unit_end(kinds, begin):
    end = begin + 1
    if stands_alone(kinds[begin]):
        return end
    while end < len(kinds) and kinds[end] in (CM, ZWJ):
        end += 1
    return end


def units_of(book, ways, text):
    kinds = [line_class(book, ways, scalar) for scalar in text]
    units = []
    begin = 0
    while begin < len(text):
        end = unit_end(kinds, begin)
        units.append(make_unit(book, text, kinds, begin, end))
        begin = end
    return units
