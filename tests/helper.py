"""Calls and books in a form that is easy to write down, for the tests."""

from brokenlinesdesk.lines import answers

CLASS_NAMES = (
    "XX AI AK AL AP AS B2 BA BB BK CB CJ CL CM CP CR EB EM EX GL H2 H3 HL HY ID IN IS JL JT JV LF NL NS NU OP PO "
    "PR QU RI SA SG SP SY VF VI WJ ZW ZWJ"
).split()

STRICT = 0
NORMAL = 1
LOOSE = 2
BREAK_ALL = 4
KEEP_ALL = 8
WORDS = 16
EASTERN = 32
SPLIT = 64


def tab(columns):
    return columns << 8


def row(numbers):
    return [len(numbers)] + list(numbers)


def flat(records):
    return [number for record in records for number in record]


def map_record(kind, scalar, comes_to):
    return [kind, scalar] + row(comes_to)


def sequence_record(kind, key, comes_to):
    return [kind] + row(key) + row(comes_to)


def raw_book_call(properties=(), maps=(), sequences=(), names=()):
    return [1] + row(properties) + row(maps) + row(sequences) + row(names)


def book_call(properties=(), maps=(), sequences=(), names=()):
    return raw_book_call(
        flat(properties),
        flat([map_record(*record) for record in maps]),
        flat([sequence_record(*record) for record in sequences]),
        [ord(letter) for letter in "".join(names)],
    )


def chances_call(w, text):
    return [2, w] + row(text)


def width_call(w, text):
    return [3, w] + row(text)


def run(*calls):
    """What each call answers, as lists of their own."""
    told = answers(flat(calls))
    parted = []
    while told:
        parted.append(told[1:1 + told[0]])
        told = told[1 + told[0]:]
    return parted


def judged(**rows):
    """What a book answers: the first broken rule and its record, or 0."""
    (answer,) = run(book_call(**rows))
    return 0 if answer == [0] else tuple(answer[1:])


def judged_raw(**rows):
    (answer,) = run(raw_book_call(**rows))
    return 0 if answer == [0] else tuple(answer[1:])


# A book with a scalar of each line class, narrow and east, and those that more is asked of.
NARROW = 0x100
EAST = 0x200
TOKENS = {
    "q<": 0x300, "q>": 0x301, "q<W": 0x302, "q>W": 0x303,
    "SAn": 0x310, "SAc": 0x311, "SAe": 0x312,
    "open": 0x320, "picture": 0x321, "unassigned": 0x322,
    "CMi": 0x330, "IDf": 0x332,
    "25CCH": 0x25CC, "2010H": 0x2010,
}
for number, name in enumerate(CLASS_NAMES):
    TOKENS[name] = NARROW + number
    TOKENS[name + "W"] = EAST + number

CLASS_PROPERTIES = (
    # general class: Pi, Pf; Mn, Mc, Me of SA; So of a picture and of all east and narrow ones; Pi of a mark, Pf of an ID
    [(1, NARROW, NARROW + 47, 22), (1, EAST, EAST + 47, 22)]
    + [(1, 0x300, 0x300, 16), (1, 0x301, 0x301, 17), (1, 0x302, 0x302, 16), (1, 0x303, 0x303, 17)]
    + [(1, 0x310, 0x310, 6), (1, 0x311, 0x311, 7), (1, 0x312, 0x312, 8), (1, 0x321, 0x321, 22), (1, 0x330, 0x330, 16), (1, 0x332, 0x332, 17)]
    + [(6, NARROW + number, NARROW + number, number) for number in range(1, 48)]
    + [(6, EAST + number, EAST + number, number) for number in range(1, 48)]
    + [(6, 0x300, 0x303, 37), (6, 0x310, 0x312, 39), (6, 0x320, 0x322, 24), (6, 0x330, 0x330, 13), (6, 0x332, 0x332, 24)]
    + [(6, 0x2010, 0x2010, 7), (6, 0x25CC, 0x25CC, 3)]
    + [(7, EAST, EAST + 47, 3), (7, 0x302, 0x303, 3)]
    + [(13, 0x320, 0x321, 1 << 12)]
)
CLASS_BOOK = book_call(properties=CLASS_PROPERTIES)


def text_of(tokens):
    return [TOKENS[token] for token in tokens.split()]


def letters(answer):
    """The marks of an answer as letters: . none, c chance, m must."""
    assert answer[0] == 0 and answer[1] == len(answer) - 2, answer
    return "".join(".cm"[mark] for mark in answer[2:])


def chances(tokens, w=STRICT, book=CLASS_BOOK):
    answer = run(book, chances_call(w, text_of(tokens)))
    assert answer[0] == [0], answer[0]
    return letters(answer[1])
