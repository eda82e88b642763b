"""The desk: one book, and the calls that are answered by it."""

from brokenlinesdesk.book import Book
from brokenlinesdesk.chances import marks_of
from brokenlinesdesk.judge import broken_clause
from brokenlinesdesk.records import broken_record
from brokenlinesdesk.scalars import all_scalars
from brokenlinesdesk.ways import Ways, is_ways
from brokenlinesdesk.widths import row_width

TOO_MUCH = -6
BROKEN = -5
WRONG = -1

BOOK_MOST = 8192
TEXT_MOST = 64


# 0 where a call with these is not refused.
def refusal(w, text):
    if len(text) > TEXT_MOST:
        return TOO_MUCH
    if not is_ways(w) or not all_scalars(text):
        return WRONG
    return 0


class Desk:
    def __init__(self):
        self.book = Book(([], [], [], []))

    def hand_over(self, rows):
        if sum([len(row) for row in rows]) > BOOK_MOST:
            return [TOO_MUCH]
        broken = broken_record(rows)
        if broken:
            return [BROKEN] + broken
        book = Book(rows)
        broken = broken_clause(book)
        if broken:
            return [BROKEN] + broken
        self.book = book
        return [0]

    def chances(self, w, text):
        refused = refusal(w, text)
        if refused < 0:
            return [refused]
        return [0, len(text)] + marks_of(self.book, Ways(w), text)

    def width(self, w, text):
        refused = refusal(w, text)
        if refused < 0:
            return [refused]
        return [row_width(self.book, Ways(w), text)]
