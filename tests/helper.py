"""Calls and books in a form that is easy to write down, for the tests."""

import re

from brokenlinesdesk.lines import answers

CLASS_NAMES = (
    "XX AI AK AL AP AS B2 BA BB BK CB CJ CL CM CP CR EB EM EX GL H2 H3 HL HY ID IN IS JL JT JV LF NL NS NU OP PO "
    "PR QU RI SA SG SP SY VF VI WJ ZW ZWJ"
).split()

STRICT = 0
NORMAL = 1
LOOSE = 2
BREAK_ALL = 4
KEEP_ALL = 8
WORDS = 16
EASTERN = 32
SPLIT = 64


def tab(columns):
    return columns << 8


def row(numbers):
    return [len(numbers)] + list(numbers)


def flat(records):
    return [number for record in records for number in record]


def map_record(kind, scalar, comes_to):
    return [kind, scalar] + row(comes_to)


def sequence_record(kind, key, comes_to):
    return [kind] + row(key) + row(comes_to)


def raw_book_call(properties=(), maps=(), sequences=(), names=()):
    return [1] + row(properties) + row(maps) + row(sequences) + row(names)


def book_call(properties=(), maps=(), sequences=(), names=()):
    return raw_book_call(
        flat(properties),
        flat([map_record(*record) for record in maps]),
        flat([sequence_record(*record) for record in sequences]),
        [ord(letter) for letter in "".join(names)],
    )


def chances_call(w, text):
    return [2, w] + row(text)


def width_call(w, text):
    return [3, w] + row(text)


def fill_call(w, columns, text, marks):
    return [4, w, columns] + row(text) + row(marks)


def ragged_call(w, columns, text, marks):
    return [5, w, columns] + row(text) + row(marks)


def measure_call(w, text):
    return [6, w] + row(text)


def run(*calls):
    """What each call answers, as lists of their own."""
    told = answers(flat(calls))
    parted = []
    while told:
        parted.append(told[1:1 + told[0]])
        told = told[1 + told[0]:]
    return parted


def judged(**rows):
    """What a book answers: the first broken rule and its record, or 0."""
    (answer,) = run(book_call(**rows))
    return 0 if answer == [0] else tuple(answer[1:])


def judged_raw(**rows):
    (answer,) = run(raw_book_call(**rows))
    return 0 if answer == [0] else tuple(answer[1:])


# A book with a scalar of each line class, narrow and east, and those that more is asked of.
NARROW = 0x100
EAST = 0x200
TOKENS = {
    "q<": 0x300, "q>": 0x301, "q<W": 0x302, "q>W": 0x303,
    "SAn": 0x310, "SAc": 0x311, "SAe": 0x312,
    "open": 0x320, "picture": 0x321, "unassigned": 0x322,
    "CMi": 0x330, "IDf": 0x332,
    "25CCH": 0x25CC, "2010H": 0x2010,
}
for number, name in enumerate(CLASS_NAMES):
    TOKENS[name] = NARROW + number
    TOKENS[name + "W"] = EAST + number

CLASS_PROPERTIES = (
    # general class: Pi, Pf; Mn, Mc, Me of SA; So of a picture and of all east and narrow ones; Pi of a mark, Pf of an ID
    [(1, NARROW, NARROW + 47, 22), (1, EAST, EAST + 47, 22)]
    + [(1, 0x300, 0x300, 16), (1, 0x301, 0x301, 17), (1, 0x302, 0x302, 16), (1, 0x303, 0x303, 17)]
    + [(1, 0x310, 0x310, 6), (1, 0x311, 0x311, 7), (1, 0x312, 0x312, 8), (1, 0x321, 0x321, 22), (1, 0x330, 0x330, 16), (1, 0x332, 0x332, 17)]
    + [(6, NARROW + number, NARROW + number, number) for number in range(1, 48)]
    + [(6, EAST + number, EAST + number, number) for number in range(1, 48)]
    + [(6, 0x300, 0x303, 37), (6, 0x310, 0x312, 39), (6, 0x320, 0x322, 24), (6, 0x330, 0x330, 13), (6, 0x332, 0x332, 24)]
    + [(6, 0x2010, 0x2010, 7), (6, 0x25CC, 0x25CC, 3)]
    + [(7, EAST, EAST + 47, 3), (7, 0x302, 0x303, 3)]
    + [(13, 0x320, 0x321, 1 << 12)]
)
CLASS_BOOK = book_call(properties=CLASS_PROPERTIES)


def text_of(tokens):
    return [TOKENS[token] for token in tokens.split()]


def letters(answer):
    """The marks of an answer as letters: . none, c chance, m must."""
    assert answer[0] == 0 and answer[1] == len(answer) - 2, answer
    return "".join(".cm"[mark] for mark in answer[2:])


def chances(tokens, w=STRICT, book=CLASS_BOOK):
    answer = run(book, chances_call(w, text_of(tokens)))
    assert answer[0] == [0], answer[0]
    return letters(answer[1])


def marks_from(written):
    """Marks out of letters: . none, c chance, m must."""
    return [".cm".index(letter) for letter in written]


def lines_of(answer):
    """The lines of an answer, as pairs."""
    assert answer[0] == 0 and answer[1] == len(answer) - 2, answer
    assert answer[1] % 2 == 0, answer
    return list(zip(answer[2::2], answer[3::2]))


# A book for lines: what is small is as wide as 1, capital letters as 2; a mark of no width, a linker and a consonant, a
# picture, indicators; and all that is left away at a line's end. A sequence makes "o" with two marks less wide than "o".
SPACE, ZERO_SPACE, BREAK, RETURN, FEED, NEXT = 32, 0x200B, 11, 13, 10, 0x85
TAB, MARK, JOINER, INDICATOR, PICTURE, AMBIGUOUS, PREPEND = 9, 0x300, 0x200D, 0x1F1E6, 0x1F600, 0xA1, 0x600
LINES_PROPERTIES = [
    (1, MARK, MARK, 6), (1, JOINER, JOINER, 27),
    (2, FEED, FEED, 2), (2, RETURN, RETURN, 1), (2, MARK, MARK, 4), (2, PREPEND, PREPEND, 7), (2, JOINER, JOINER, 5),
    (2, INDICATOR, INDICATOR, 6),
    (6, TAB, TAB, 7), (6, FEED, FEED, 30), (6, BREAK, BREAK, 9), (6, RETURN, RETURN, 15), (6, SPACE, SPACE, 41),
    (6, NEXT, NEXT, 31), (6, MARK, MARK, 13), (6, ZERO_SPACE, ZERO_SPACE, 46), (6, JOINER, JOINER, 47),
    (6, INDICATOR, INDICATOR, 38), (6, PICTURE, PICTURE, 24),
    (7, 65, 90, 3), (7, AMBIGUOUS, AMBIGUOUS, 1), (7, PICTURE, PICTURE, 3),
    (13, PICTURE, PICTURE, 1 << 12),
]
LESSENING = [(2, [ord("o"), MARK, MARK], [0]), (2, [PICTURE, JOINER, PICTURE], [1])]
LINES_BOOK = book_call(properties=LINES_PROPERTIES, sequences=LESSENING)
# Without the sequences a shorter row is never wider.
PLAIN_BOOK = book_call(properties=LINES_PROPERTIES)

SIGNS = {
    "_": SPACE, "^": MARK, "z": ZERO_SPACE, "|": BREAK, "<": RETURN, ">": FEED, "!": NEXT, "-": TAB, "+": JOINER,
    "*": INDICATOR, "#": PICTURE, "?": AMBIGUOUS, "=": PREPEND,
}


def scalars_of(written):
    """A text out of letters, with signs for what is no letter."""
    return [SIGNS.get(letter, ord(letter)) for letter in written]


# The clusters of a text by the book for lines, as a pattern over its letters and signs.
CLUSTER = re.compile(r"<>|[<>]|=*(?:[*][*]?|#(?:\^*[+]#)*|[^<>^+=*#]|(?=[\^+]))[\^+]*|=+")


def borders_of(written):
    """The ends of a text's clusters."""
    found = CLUSTER.findall(written)
    assert "".join(found) == written and "" not in found, written
    return [len("".join(found[:count])) for count in range(1, len(found) + 1)]


def asked_lines(call, written, marks, columns, w=STRICT, book=LINES_BOOK):
    told = run(book, call(w, columns, scalars_of(written), marks_from(marks)))
    assert told[0] == [0], told[0]
    return lines_of(told[1])


def filled(written, marks, columns, w=STRICT, book=LINES_BOOK):
    return asked_lines(fill_call, written, marks, columns, w, book)


def ragged(written, marks, columns, w=STRICT, book=LINES_BOOK):
    return asked_lines(ragged_call, written, marks, columns, w, book)


def own_marks(written, w=STRICT, book=LINES_BOOK):
    return letters(run(book, chances_call(w, scalars_of(written)))[1])


def measures(rows, w=STRICT, book=LINES_BOOK):
    """The measures of rows of scalars, in lists of calls that are no longer than they may be."""
    told = []
    for first in range(0, len(rows), 20):
        told += run(book, *[measure_call(w, line) for line in rows[first:first + 20]])[1:]
    return [number for (number,) in told]


def measure(written, w=STRICT, book=LINES_BOOK):
    return measures([scalars_of(written)], w, book)[0]


def table_text(length):
    return list(range(0x300, 0x300 + length))


def table_book(length, table):
    """A book by which each row of a text of so many scalars is as wide as a table of (from, to) tells, else 1.

    All scalars extend what is before them, so each row of two or more is one cluster, and a key of its own.
    """
    text = table_text(length)
    records = [(2, text[0], text[-1], 4)]
    for (begin, end), width in table.items():
        # Ranges that touch differ in value, so neighbours take turns: Mn and Me, W and F.
        turn = begin % 2
        if end - begin == 1 and width == 0:
            records.append((1, text[begin], text[begin], 6 + 2 * turn))
        if end - begin == 1 and width == 2:
            records.append((7, text[begin], text[begin], 3 + turn))
    keys = [(2, text[begin:end], [width]) for (begin, end), width in table.items() if end - begin > 1]
    return book_call(properties=sorted(records), sequences=sorted(keys))


def table_lines(call, marks, columns, table, w=STRICT):
    book = table_book(len(marks), table)
    told = run(book, call(w, columns, table_text(len(marks)), marks_from(marks)))
    assert told[0] == [0], told[0]
    return lines_of(told[1])


def rows_of(length):
    """Each row of a text of so many scalars: from, to."""
    return [(begin, end) for begin in range(length) for end in range(begin + 1, length + 1)]


def all_measures(text, w=STRICT, book=LINES_BOOK):
    rows = rows_of(len(text))
    return dict(zip(rows, measures([text[begin:end] for begin, end in rows], w, book)))
