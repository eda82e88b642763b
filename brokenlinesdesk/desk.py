"""The desk: one book, and the calls that are answered by it."""

from brokenlinesdesk.book import Book
from brokenlinesdesk.chances import marks_of
from brokenlinesdesk.filled import filled_lines
from brokenlinesdesk.judge import broken_clause
from brokenlinesdesk.marks import are_marks
from brokenlinesdesk.ragged import ragged_lines
from brokenlinesdesk.records import broken_record
from brokenlinesdesk.scalars import all_scalars
from brokenlinesdesk.ways import Ways, is_ways
from brokenlinesdesk.widths import Sheet, line_measure, row_width

TOO_MUCH = -6
BROKEN = -5
WRONG = -1

BOOK_MOST = 8192
TEXT_MOST = 64
COLUMNS_MOST = 65535


# 0 where a call with these is not refused.
def refusal(w, text):
    if len(text) > TEXT_MOST:
        return TOO_MUCH
    if not is_ways(w) or not all_scalars(text):
        return WRONG
    return 0


# The same of a call that asks for lines.
def lines_refusal(w, columns, text, marks):
    if len(marks) > TEXT_MOST:
        return TOO_MUCH
    refused = refusal(w, text)
    if refused < 0:
        return refused
    if not 1 <= columns <= COLUMNS_MOST or not are_marks(marks, text):
        return WRONG
    return 0


class Desk:
    def __init__(self):
        self.book = Book(([], [], [], []))

    def hand_over(self, rows):
        if sum([len(row) for row in rows]) > BOOK_MOST:
            return [TOO_MUCH]
        broken = broken_record(rows)
        if broken:
            return [BROKEN] + broken
        book = Book(rows)
        broken = broken_clause(book)
        if broken:
            return [BROKEN] + broken
        self.book = book
        return [0]

    def sheet_of(self, w, text):
        return Sheet(self.book, Ways(w), text)

    def chances(self, w, text):
        refused = refusal(w, text)
        if refused < 0:
            return [refused]
        return [0, len(text)] + marks_of(self.book, Ways(w), text)

    def width(self, w, text):
        refused = refusal(w, text)
        if refused < 0:
            return [refused]
        return [row_width(self.sheet_of(w, text), 0, len(text))]

    def fill(self, w, columns, text, marks):
        refused = lines_refusal(w, columns, text, marks)
        if refused < 0:
            return [refused]
        lines = filled_lines(self.sheet_of(w, text), columns, Ways(w).splits, marks)
        return [0, len(lines)] + lines

    def ragged(self, w, columns, text, marks):
        refused = lines_refusal(w, columns, text, marks)
        if refused < 0:
            return [refused]
        lines = ragged_lines(self.sheet_of(w, text), columns, marks)
        return [0, len(lines)] + lines

    def measure(self, w, text):
        refused = refusal(w, text)
        if refused < 0:
            return [refused]
        return [line_measure(self.sheet_of(w, text), 0, len(text))]
