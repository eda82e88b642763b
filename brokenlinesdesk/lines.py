"""The interface: a list of calls on one new desk, and what is answered."""

from brokenlinesdesk.desk import Desk

BOOK_CALL = 1
CHANCES_CALL = 2
WIDTH_CALL = 3
FILL_CALL = 4
RAGGED_CALL = 5
MEASURE_CALL = 6


class UnknownCall(ValueError):
    pass


# Reads a list of calls from its beginning on, and leaves the list as it is.
class Reader:
    def __init__(self, numbers):
        self.numbers = numbers
        self.at = 0

    def is_done(self):
        return self.at >= len(self.numbers)

    def take_number(self):
        number = self.numbers[self.at]
        self.at += 1
        return number

    def take_row(self):
        many = self.take_number()
        row = self.numbers[self.at:self.at + many]
        self.at += many
        return row


def text_answer(desk, call, reader):
    w = reader.take_number()
    text = reader.take_row()
    if call == CHANCES_CALL:
        return desk.chances(w, text)
    if call == WIDTH_CALL:
        return desk.width(w, text)
    return desk.measure(w, text)


def lines_answer(desk, call, reader):
    w = reader.take_number()
    columns = reader.take_number()
    text = reader.take_row()
    marks = reader.take_row()
    if call == FILL_CALL:
        return desk.fill(w, columns, text, marks)
    return desk.ragged(w, columns, text, marks)


def answer_of(desk, reader):
    call = reader.take_number()
    if call == BOOK_CALL:
        return desk.hand_over([reader.take_row() for row in range(4)])
    if call in (CHANCES_CALL, WIDTH_CALL, MEASURE_CALL):
        return text_answer(desk, call, reader)
    if call in (FILL_CALL, RAGGED_CALL):
        return lines_answer(desk, call, reader)
    raise UnknownCall(f"no call {call}")


def answers(calls):
    desk = Desk()
    reader = Reader(calls)
    told = []
    while not reader.is_done():
        answer = answer_of(desk, reader)
        told.append(len(answer))
        told.extend(answer)
    return told
