"""Chances: where a text may be broken and where it must, by the rules in their order."""

from brokenlinesdesk.classes import (
    AK, AL, AP, AS, B2, BA, BB, BK, CB, CL, CP, CR, EB, EM, EX, GL, H2, H3, HL, HY, ID, IN, IS,
    JL, JT, JV, LF, NL, NS, NU, OP, PO, PR, QU, RI, SP, SY, VF, VI, WJ, ZW,
)
from brokenlinesdesk.marks import CHANCE, MUST, NONE
from brokenlinesdesk.units import NOTHING, no_unit, units_of
from brokenlinesdesk.words import word_cuts

# A rule that has nothing to say of a place.
SILENT = -1


def is_letter(kind):
    return kind in (AL, HL)


def is_ideograph(kind):
    return kind in (ID, EB, EM)


def is_korean(kind):
    return kind in (JL, JV, JT, H2, H3)


def unit_at(units, place):
    if 0 <= place < len(units):
        return units[place]
    return no_unit()


def last_no_space(units, place):
    while place >= 0 and units[place].kind == SP:
        place -= 1
    return place


# A place between two units, and the units around it that the rules name.
class Place:
    def __init__(self, units, place, is_cut):
        no_space = last_no_space(units, place)
        self.units = units
        self.place = place
        self.is_cut = is_cut
        self.xx = unit_at(units, place - 1)
        self.x = units[place]
        self.y = units[place + 1]
        self.yy = unit_at(units, place + 2)
        self.yyy = unit_at(units, place + 3)
        self.z = unit_at(units, no_space)
        self.zz = unit_at(units, no_space - 1)


def none_if(holds):
    return NONE if holds else SILENT


def rule_1(at):
    if at.x.kind == BK:
        return MUST
    if at.x.kind == CR and at.y.kind == LF:
        return NONE
    return MUST if at.x.kind in (CR, LF, NL) else SILENT


def rule_2(at):
    return none_if(at.y.kind in (BK, CR, LF, NL, SP, ZW))


def rule_3(at):
    return CHANCE if at.z.kind == ZW else SILENT


def rule_4(at):
    return none_if(at.x.joined)


def rule_5(at):
    return none_if(at.x.kind == WJ or at.y.kind == WJ)


def rule_6(at):
    return none_if(at.x.kind == GL or (at.y.kind == GL and at.x.kind not in (SP, BA, HY)))


def rule_7(at):
    return none_if(at.y.kind in (CL, CP, EX, SY))


def rule_8(at):
    return none_if(at.z.kind == OP)


def rule_9(at):
    begins = at.zz.kind in (NOTHING, BK, CR, LF, NL, OP, QU, GL, SP, ZW)
    return none_if(at.z.kind == QU and at.z.initial and begins)


def rule_10(at):
    ends = at.yy.kind in (NOTHING, SP, GL, WJ, CL, QU, CP, EX, IS, SY, BK, CR, LF, NL, ZW)
    return none_if(at.y.kind == QU and at.y.final and ends)


def rule_11(at):
    if at.y.kind != IS:
        return SILENT
    return CHANCE if at.x.kind == SP and at.yy.kind == NU else NONE


def rule_12(at):
    if at.y.kind == NS and at.z.kind in (CL, CP):
        return NONE
    return none_if(at.y.kind == B2 and at.z.kind == B2)


def rule_13(at):
    return CHANCE if at.x.kind == SP else SILENT


def rule_14(at):
    if at.y.kind == QU and not at.y.initial:
        return NONE
    return none_if(at.x.kind == QU and not at.x.final)


# A unit that isn't there isn't east either.
def rule_15(at):
    if at.y.kind == QU and not (at.x.east and at.yy.east):
        return NONE
    return none_if(at.x.kind == QU and not (at.y.east and at.xx.east))


def rule_16(at):
    return CHANCE if at.x.kind == CB or at.y.kind == CB else SILENT


def rule_17(at):
    is_hyphen = at.x.kind == HY or at.x.soft
    begins = at.xx.kind in (NOTHING, BK, CR, LF, NL, SP, ZW, CB, GL)
    return none_if(is_hyphen and begins and at.y.kind == AL)


def rule_18(at):
    if at.y.kind in (BA, HY, NS) or at.x.kind == BB:
        return NONE
    is_hyphen = at.x.kind == HY or (at.x.kind == BA and not at.x.east)
    if at.xx.kind == HL and at.y.kind != HL and is_hyphen:
        return NONE
    return none_if(at.x.kind == SY and at.y.kind == HL)


def rule_19(at):
    return none_if(at.y.kind == IN)


def rule_20(at):
    x = at.x.kind
    y = at.y.kind
    if (is_letter(x) and y in (NU, PR, PO)) or (x in (NU, PR, PO) and is_letter(y)):
        return NONE
    return none_if((x == PR and is_ideograph(y)) or (is_ideograph(x) and y == PO))


def digits_before(units, place):
    while place >= 0 and units[place].kind in (SY, IS):
        place -= 1
    return place >= 0 and units[place].kind == NU


def digits_end(at):
    if digits_before(at.units, at.place):
        return True
    return at.x.kind in (CL, CP) and digits_before(at.units, at.place - 1)


def rule_21(at):
    x = at.x.kind
    y = at.y.kind
    if y in (PO, PR) and digits_end(at):
        return NONE
    digits_open = at.yy.kind == NU or (at.yy.kind == IS and at.yyy.kind == NU)
    if x in (PO, PR) and y == OP and digits_open:
        return NONE
    return none_if(y == NU and (x in (PO, PR, HY, IS) or digits_before(at.units, at.place)))


def syllable_goes_on(x, y):
    if x == JL:
        return y in (JL, JV, H2, H3)
    if x in (JV, H2):
        return y in (JV, JT)
    return x in (JT, H3) and y == JT


def rule_22(at):
    x = at.x.kind
    y = at.y.kind
    return none_if(syllable_goes_on(x, y) or (is_korean(x) and y == PO) or (x == PR and is_korean(y)))


# A cut stands only behind units of a row of words: whether the row goes on is y's to say.
def rule_23(at):
    if not is_letter(at.x.kind) or not is_letter(at.y.kind):
        return SILENT
    return CHANCE if at.is_cut and at.y.spaceless else NONE


def is_kernel(unit):
    return unit.kind in (AK, AS) or unit.ring


def rule_24(at):
    if at.x.kind == AP and is_kernel(at.y):
        return NONE
    if is_kernel(at.x) and at.y.kind in (VF, VI):
        return NONE
    if is_kernel(at.xx) and at.x.kind == VI and (at.y.kind == AK or at.y.ring):
        return NONE
    return none_if(is_kernel(at.x) and is_kernel(at.y) and at.yy.kind == VF)


def rule_25(at):
    return none_if(at.x.kind == IS and is_letter(at.y.kind))


def rule_26(at):
    if (is_letter(at.x.kind) or at.x.kind == NU) and at.y.kind == OP and not at.y.east:
        return NONE
    return none_if(at.x.kind == CP and not at.x.east and (is_letter(at.y.kind) or at.y.kind == NU))


def indicators_up_to(units, place):
    back = place
    while back >= 0 and units[back].kind == RI:
        back -= 1
    return place - back


def rule_27(at):
    return none_if(at.y.kind == RI and indicators_up_to(at.units, at.place) % 2 == 1)


def rule_28(at):
    return none_if((at.x.kind == EB or at.x.unassigned) and at.y.kind == EM)


RULES = (
    rule_1, rule_2, rule_3, rule_4, rule_5, rule_6, rule_7, rule_8, rule_9, rule_10, rule_11, rule_12,
    rule_13, rule_14, rule_15, rule_16, rule_17, rule_18, rule_19, rule_20, rule_21, rule_22, rule_23,
    rule_24, rule_25, rule_26, rule_27, rule_28,
)


# Rule 29 is what's left where none of the others speaks.
def verdict(at):
    for rule in RULES:
        said = rule(at)
        if said != SILENT:
            return said
    return CHANCE


# Of each scalar what is behind it: 0 none, 1 a chance, 2 a must.
def marks_of(book, ways, text):
    units = units_of(book, ways, text)
    cuts = word_cuts(book, text, units) if ways.by_words and not ways.break_all else {}
    marks = [NONE for scalar in text]
    for place in range(len(units) - 1):
        marks[units[place].end - 1] = verdict(Place(units, place, place in cuts))
    if len(text) > 0:
        marks[-1] = MUST
    return marks
