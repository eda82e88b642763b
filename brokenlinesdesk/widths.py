"""Widths of scalars, of clusters and of rows."""

from brokenlinesdesk.clusters import RI, cluster_class, cluster_ends
from brokenlinesdesk.kinds import AMBIGUOUS, CC, CF, FULL, GENERAL, IGNORABLE, ME, MN, WHOLES, WIDE, WIDTH

TAB = 9


def scalar_width(book, ways, scalar):
    if book.value(GENERAL, scalar) in (MN, ME, CC, CF) or book.has_flag(IGNORABLE, scalar):
        return 0
    width = book.value(WIDTH, scalar)
    if width in (WIDE, FULL) or (width == AMBIGUOUS and ways.eastern):
        return 2
    return 1


def cluster_width(book, ways, cluster, column):
    if cluster == [TAB] and ways.tab > 0:
        return ways.tab - column % ways.tab
    number = book.number_of(WHOLES, tuple(cluster))
    if number >= 0:
        return number
    indicators = [scalar for scalar in cluster if cluster_class(book, scalar) == RI]
    if len(indicators) == 2:
        return 2
    return max([scalar_width(book, ways, scalar) for scalar in cluster])


def row_width(book, ways, row):
    column = 0
    begin = 0
    for end in cluster_ends(book, row):
        column += cluster_width(book, ways, row[begin:end], column)
        begin = end
    return column
