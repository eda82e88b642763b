"""Words of scripts without spaces: rows of units cut into pieces of least cost."""

from brokenlinesdesk.classes import AL
from brokenlinesdesk.kinds import WORDS

UNKNOWN_COST = 65536
NO_PIECE = -1


def in_row(units, place):
    return place < len(units) and units[place].kind == AL and units[place].spaceless


def piece_cost(book, text, units, first, last):
    cost = book.number_of(WORDS, tuple(text[units[first].begin:units[last].end]))
    if cost >= 0:
        return cost
    if first == last:
        return UNKNOWN_COST
    return NO_PIECE


# Of each unit of the row the last one of the piece that begins there in the least cut of the
# rest. Of equal cuts the longer first piece is taken, so a later one that is equal wins.
def least_pieces(book, text, units, first, behind):
    least = {behind: 0}
    lasts = {}
    for begin in range(behind - 1, first - 1, -1):
        for last in range(begin, behind):
            cost = piece_cost(book, text, units, begin, last)
            if cost != NO_PIECE:
                whole = cost + least[last + 1]
                if begin not in least or whole <= least[begin]:
                    least[begin] = whole
                    lasts[begin] = last
    return lasts


def row_cuts(book, text, units, first, behind):
    lasts = least_pieces(book, text, units, first, behind)
    cuts = []
    begin = first
    while begin < behind:
        cuts.append(lasts[begin])
        begin = lasts[begin] + 1
    return cuts


# The units behind which a piece ends, as a dict of True.
def word_cuts(book, text, units):
    cuts = {}
    first = 0
    while first < len(units):
        behind = first
        while in_row(units, behind):
            behind += 1
        for unit in row_cuts(book, text, units, first, behind):
            cuts[unit] = True
        first = max(behind, first + 1)
    return cuts
