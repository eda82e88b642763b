"""Lines filled: each goes as far as the columns let it."""

from brokenlinesdesk.clusters import cluster_ends
from brokenlinesdesk.marks import chances_behind
from brokenlinesdesk.widths import line_measure

NOWHERE = -1


# A longer row may be less wide, so all places are looked at, not only those up to one too far.
def farthest_fit(sheet, columns, begin, places):
    fits = [place for place in places if line_measure(sheet, begin, place) <= columns]
    return max(fits, default=NOWHERE)


def line_end(sheet, columns, splits, begin, chances):
    end = farthest_fit(sheet, columns, begin, chances)
    if end != NOWHERE:
        return end
    if not splits:
        return chances[0]
    borders = cluster_ends(sheet.signs, begin, chances[0])
    end = farthest_fit(sheet, columns, begin, borders)
    return borders[0] if end == NOWHERE else end


# Of each line from and to, one behind another.
def filled_lines(sheet, columns, splits, marks):
    lines = []
    begin = 0
    while begin < len(marks):
        end = line_end(sheet, columns, splits, begin, chances_behind(marks, begin))
        lines.extend([begin, end])
        begin = end
    return lines
