"""Least raggedness: each row between musts cut so that its badness is least."""

from brokenlinesdesk.marks import chances_behind
from brokenlinesdesk.widths import line_measure


# What a line adds to a cut's badness: how far it passes the columns, the square of what it lacks, itself.
def line_badness(sheet, columns, begin, end, is_last):
    lack = columns - line_measure(sheet, begin, end)
    if lack < 0:
        return (-lack, 0, 1)
    return (0, 0 if is_last else lack * lack, 1)


def summed(first, second):
    return (first[0] + second[0], first[1] + second[1], first[2] + second[2])


# Of each place but the last the end of the line that begins there in the least cut of the rest.
# Of equal cuts the longer first line is taken, so a later one that is equal wins.
def least_ends(sheet, columns, places):
    must = places[-1]
    least = {must: (0, 0, 0)}
    ends = {}
    for at in range(len(places) - 2, -1, -1):
        begin = places[at]
        for end in places[at + 1:]:
            badness = summed(line_badness(sheet, columns, begin, end, end == must), least[end])
            if begin not in least or badness <= least[begin]:
                least[begin] = badness
                ends[begin] = end
    return ends


# Of each line from and to, one behind another.
def ragged_lines(sheet, columns, marks):
    lines = []
    begin = 0
    while begin < len(marks):
        places = [begin] + chances_behind(marks, begin)
        ends = least_ends(sheet, columns, places)
        while begin < places[-1]:
            lines.extend([begin, ends[begin]])
            begin = ends[begin]
    return lines
