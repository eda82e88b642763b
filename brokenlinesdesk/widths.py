"""Widths of scalars, of clusters and of rows, and the measure of a line."""

from brokenlinesdesk.classes import line_class, stands_alone
from brokenlinesdesk.clusters import RI, Signs, cluster_ends
from brokenlinesdesk.kinds import AMBIGUOUS, CC, CF, FULL, GENERAL, IGNORABLE, ME, MN, WHOLES, WIDE, WIDTH

TAB = 9


def scalar_width(book, ways, scalar):
    if book.value(GENERAL, scalar) in (MN, ME, CC, CF) or book.has_flag(IGNORABLE, scalar):
        return 0
    width = book.value(WIDTH, scalar)
    if width in (WIDE, FULL) or (width == AMBIGUOUS and ways.eastern):
        return 2
    return 1


# A text whose rows are measured: all that is asked of its scalars is looked up once.
class Sheet:
    def __init__(self, book, ways, text):
        self.book = book
        self.text = text
        self.tab = ways.tab
        self.signs = Signs(book, text)
        self.widths = [scalar_width(book, ways, scalar) for scalar in text]
        self.alone = [stands_alone(line_class(book, ways, scalar)) for scalar in text]


def cluster_width(sheet, begin, end, column):
    cluster = sheet.text[begin:end]
    if cluster == [TAB] and sheet.tab > 0:
        return sheet.tab - column % sheet.tab
    number = sheet.book.number_of(WHOLES, tuple(cluster))
    if number >= 0:
        return number
    if sheet.signs.kinds[begin:end].count(RI) == 2:
        return 2
    return max(sheet.widths[begin:end])


def row_width(sheet, begin, end):
    column = 0
    at = begin
    for border in cluster_ends(sheet.signs, begin, end):
        column += cluster_width(sheet, at, border, column)
        at = border
    return column


# What is left away at the end are just the scalars that stand alone, each of them a unit, so the
# line need not be parted into units.
def line_measure(sheet, begin, end):
    while begin < end and sheet.alone[end - 1]:
        end -= 1
    return row_width(sheet, begin, end)
