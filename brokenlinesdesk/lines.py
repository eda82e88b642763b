"""The interface: a list of calls on one new desk, and what is answered."""

from brokenlinesdesk.desk import Desk

BOOK_CALL = 1
CHANCES_CALL = 2
WIDTH_CALL = 3


class UnknownCall(ValueError):
    pass


# Reads a list of calls from its beginning on, and leaves the list as it is.
class Reader:
    def __init__(self, numbers):
        self.numbers = numbers
        self.at = 0

    def is_done(self):
        return self.at >= len(self.numbers)

    def take_number(self):
        number = self.numbers[self.at]
        self.at += 1
        return number

    def take_row(self):
        many = self.take_number()
        row = self.numbers[self.at:self.at + many]
        self.at += many
        return row


def answer_of(desk, reader):
    call = reader.take_number()
    if call == BOOK_CALL:
        return desk.hand_over([reader.take_row() for row in range(4)])
    if call not in (CHANCES_CALL, WIDTH_CALL):
        raise UnknownCall(f"no call {call}")
    w = reader.take_number()
    text = reader.take_row()
    if call == CHANCES_CALL:
        return desk.chances(w, text)
    return desk.width(w, text)


def answers(calls):
    desk = Desk()
    reader = Reader(calls)
    told = []
    while not reader.is_done():
        answer = answer_of(desk, reader)
        told.append(len(answer))
        told.extend(answer)
    return told
