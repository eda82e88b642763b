"""Promises F1 to F4 over texts made up from all classes."""

import random
import unittest

from tests.helper import (
    BREAK_ALL, CLASS_BOOK, CLASS_NAMES, CLASS_PROPERTIES, EASTERN, KEEP_ALL, LOOSE, NORMAL, STRICT, TOKENS, WORDS,
    book_call, chances_call, letters, run,
)

WAYS = [0, NORMAL, LOOSE, BREAK_ALL, KEEP_ALL, WORDS, EASTERN, LOOSE | BREAK_ALL | EASTERN, KEEP_ALL | WORDS | NORMAL]
ENDING = {TOKENS[name + wide]: name for name in ("BK", "CR", "LF", "NL") for wide in ("", "W")}
ALONE = {TOKENS[name + wide] for name in ("BK", "CR", "LF", "NL", "SP", "ZW") for wide in ("", "W")}
MARKS = {TOKENS[name] for name in ("CM", "CMW", "CMi", "ZWJ", "ZWJW", "SAn", "SAc")}


def some_texts(seed, count, more=()):
    source = random.Random(seed)
    tokens = sorted(TOKENS)
    for turn in range(count):
        kinds = source.sample(tokens, source.randint(2, 12)) + list(more)
        yield [TOKENS[token] for token in source.choices(kinds, k=source.randint(1, 12))]


def told(text, w):
    return letters(run(CLASS_BOOK, chances_call(w, text))[1])


class Promises(unittest.TestCase):
    def test_f1_musts(self):
        for place, text in enumerate(some_texts(1, 400, ("CR", "LF", "NL", "BK"))):
            marks = told(text, WAYS[place % len(WAYS)])
            for at, letter in enumerate(marks):
                ends = at == len(text) - 1
                name = ENDING.get(text[at])
                if name == "CR" and not ends and ENDING.get(text[at + 1]) == "LF":
                    self.assertEqual(letter, ".")
                else:
                    self.assertEqual(letter == "m", ends or name is not None)

    def test_f3_no_place_inside_a_unit(self):
        for place, text in enumerate(some_texts(3, 400, ("CM", "ZWJ", "SAn"))):
            marks = told(text, WAYS[place % len(WAYS)])
            for at in range(1, len(text)):
                if text[at] in MARKS and text[at - 1] not in ALONE:
                    self.assertEqual(marks[at - 1], ".", text)

    def test_f3_keep_all_has_no_more(self):
        for place, text in enumerate(some_texts(33, 400)):
            for w in (0, NORMAL, LOOSE, WORDS, EASTERN):
                for kept, free in zip(told(text, w | KEEP_ALL), told(text, w)):
                    self.assertIn(free, {".": ".cm", "c": "c", "m": "m"}[kept])

    def test_f3_strict_and_normal(self):
        seen = 0
        for text in some_texts(333, 400):
            differs = told(text, STRICT) != told(text, NORMAL)
            seen += differs
            if TOKENS["CJ"] not in text and TOKENS["CJW"] not in text:
                self.assertFalse(differs)
        self.assertGreater(seen, 0)

    def test_f4_a_must_parts_the_text(self):
        for place, text in enumerate(some_texts(4, 400, ("BK", "CR", "LF", "NL"))):
            w = WAYS[place % len(WAYS)]
            marks = told(text, w)
            for at in range(1, len(text)):
                if marks[at - 1] == "m":
                    self.assertEqual(told(text[:at], w) + told(text[at:], w), marks)


# Another book: other scalars, other values of all that chances don't hang on.
FAR = 0x5000


def far(scalar):
    return scalar if scalar in (0x25CC, 0x2010) else scalar + FAR


def far_properties():
    records = []
    for kind, first, last, value in CLASS_PROPERTIES:
        if first not in (0x25CC, 0x2010):
            first, last = first + FAR, last + FAR
        if kind == 1 and value == 22:
            value = 9
        if kind == 7:
            value = 2 if first < FAR + 0x300 else 4
        records.append((kind, first, last, value))
    records += [(2, FAR, FAR + 0x31F, 8), (2, FAR + 0x323, FAR + 0x3FF, 4), (8, FAR, FAR + 0x3FF, 3), (10, FAR, FAR + 0x400, 2)]
    records += [(3, FAR + 0x330, FAR + 0x330, 1), (4, FAR, FAR + 0x200, 10), (5, FAR, FAR + 0x200, 9)]
    return sorted(records)


class ByClassesAlone(unittest.TestCase):
    def test_f2_two_books(self):
        words = [["SA"], ["SA", "SA"], ["SA", "SAe"], ["SAn"]]
        near_words = sorted((1, [TOKENS[token] for token in word], [len(word)]) for word in words)
        far_words = [(kind, [far(scalar) for scalar in key], cost) for kind, key, cost in near_words]
        near_book = book_call(properties=CLASS_PROPERTIES, sequences=near_words)
        far_book = book_call(properties=far_properties(), sequences=far_words)
        for text in some_texts(2, 600, ("SA", "SAn")):
            for w in (0, WORDS, LOOSE | EASTERN):
                first = run(near_book, chances_call(w, text))
                second = run(far_book, chances_call(w, [far(scalar) for scalar in text]))
                self.assertEqual(first[0], [0])
                self.assertEqual(first, second)

    def test_f2_scalars_of_one_class_do_alike(self):
        # Two scalars of each class in one book, and each text with either.
        properties = [(6, 64 * number, 64 * number + 1, number) for number in range(1, len(CLASS_NAMES))]
        book = book_call(properties=properties)
        source = random.Random(22)
        for turn in range(300):
            text = [64 * source.randrange(1, len(CLASS_NAMES)) for count in range(source.randint(1, 10))]
            other = [scalar + source.randrange(2) for scalar in text]
            answers = run(book, chances_call(0, text), chances_call(0, other))
            self.assertEqual(answers[1], answers[2])


if __name__ == "__main__":
    unittest.main()
