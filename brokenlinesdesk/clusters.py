"""Clusters: where a text falls apart for the eye."""

from brokenlinesdesk.kinds import CLUSTER, CONJUNCT, CONJUNCT_EXTEND, CONSONANT, LINKER, PICTOGRAPHIC
from brokenlinesdesk.scalars import is_hangul, is_leading, is_lv_syllable, is_syllable, is_trailing, is_vowel

CR = 1
LF = 2
CONTROL = 3
EXTEND = 4
ZWJ = 5
RI = 6
PREPEND = 7
SPACING_MARK = 8
L = 9
V = 10
T = 11
LV = 12
LVT = 13


def cluster_class(book, scalar):
    if is_leading(scalar):
        return L
    if is_vowel(scalar):
        return V
    if is_trailing(scalar):
        return T
    if is_lv_syllable(scalar):
        return LV
    if is_syllable(scalar):
        return LVT
    return book.value(CLUSTER, scalar)


def conjunct_class(book, scalar):
    return 0 if is_hangul(scalar) else book.value(CONJUNCT, scalar)


def is_pictographic(book, scalar):
    return not is_hangul(scalar) and book.has_flag(PICTOGRAPHIC, scalar)


# What the cluster rules ask of a text's scalars, looked up once for all rows of the text.
class Signs:
    def __init__(self, book, text):
        self.kinds = [cluster_class(book, scalar) for scalar in text]
        self.conjuncts = [conjunct_class(book, scalar) for scalar in text]
        self.pictures = [is_pictographic(book, scalar) for scalar in text]


# Rules 4 to 6
def syllable_joins(a, b):
    if a == L:
        return b in (L, V, LV, LVT)
    if a in (LV, V):
        return b in (V, T)
    return a in (LVT, T) and b == T


# Rule 10
def conjunct_joins(signs, begin, place):
    if signs.conjuncts[place] != CONSONANT:
        return False
    linked = False
    back = place - 1
    while back >= begin and signs.conjuncts[back] in (LINKER, CONJUNCT_EXTEND):
        linked = linked or signs.conjuncts[back] == LINKER
        back -= 1
    return linked and back >= begin and signs.conjuncts[back] == CONSONANT


# Rule 11
def picture_joins(signs, begin, place):
    if not signs.pictures[place] or signs.kinds[place - 1] != ZWJ:
        return False
    back = place - 2
    while back >= begin and signs.kinds[back] == EXTEND:
        back -= 1
    return back >= begin and signs.pictures[back]


# Rule 12
def indicator_joins(signs, begin, place):
    if signs.kinds[place] != RI:
        return False
    back = place - 1
    while back >= begin and signs.kinds[back] == RI:
        back -= 1
    return (place - 1 - back) % 2 == 1


# Of a row that begins at begin: what stands before it is of no account.
def is_joined(signs, begin, place):
    a = signs.kinds[place - 1]
    b = signs.kinds[place]
    if a == CR and b == LF:
        return True
    if a in (CR, LF, CONTROL) or b in (CR, LF, CONTROL):
        return False
    # From rule 4 on all but the last join, so their order is of no account.
    if syllable_joins(a, b) or b in (EXTEND, ZWJ, SPACING_MARK) or a == PREPEND:
        return True
    if conjunct_joins(signs, begin, place) or picture_joins(signs, begin, place):
        return True
    return indicator_joins(signs, begin, place)


# Where the clusters of the row from begin to end have their ends, one behind another.
def cluster_ends(signs, begin, end):
    ends = [place for place in range(begin + 1, end) if not is_joined(signs, begin, place)]
    if begin < end:
        ends.append(end)
    return ends
