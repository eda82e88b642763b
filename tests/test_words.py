"""Words of scripts without spaces, and promise F9."""

import itertools
import random
import unittest

from tests.helper import BREAK_ALL, EASTERN, KEEP_ALL, LOOSE, WORDS, book_call, chances_call, letters, run

A, B, C, D = 0xE01, 0xE02, 0xE03, 0xE04
MARK, SPACING = 0xE10, 0xE11
LETTER, SPACE, JOINER, OTHER_MARK, IDEOGRAPH, BREAK = 0x41, 0x20, 0x200D, 0x300, 0x4E00, 0x0A
PROPERTIES = [
    (1, MARK, MARK, 6), (1, SPACING, SPACING, 7),
    (6, BREAK, BREAK, 9), (6, SPACE, SPACE, 41), (6, OTHER_MARK, OTHER_MARK, 13), (6, A, D, 39), (6, MARK, SPACING, 39),
    (6, JOINER, JOINER, 47), (6, IDEOGRAPH, IDEOGRAPH, 24),
]


def cut(costs, text, w=WORDS):
    sequences = sorted((1, list(key), [cost]) for key, cost in costs.items())
    told = run(book_call(properties=PROPERTIES, sequences=sequences), chances_call(w, text))
    assert told[0] == [0], told
    return letters(told[1])


class WordCuts(unittest.TestCase):
    def test_without_words_none(self):
        self.assertEqual(cut({(A,): 1, (B,): 1}, [A, B], 0), ".m")
        self.assertEqual(cut({(A,): 1, (B,): 1}, [A, B]), "cm")

    def test_the_least_cost(self):
        costs = {(A, B): 5, (B, C): 3, (A,): 4, (C,): 4}
        self.assertEqual(cut(costs, [A, B, C]), "c.m")
        costs[(A, B)] = 2
        self.assertEqual(cut(costs, [A, B, C]), ".cm")
        costs[(A, B, C)] = 5
        self.assertEqual(cut(costs, [A, B, C]), "..m")

    def test_a_unit_that_is_no_key_costs_65536(self):
        self.assertEqual(cut({}, [A, B, C]), "ccm")
        self.assertEqual(cut({(A, B): 65535}, [A, B, C]), ".cm")
        self.assertEqual(cut({(A, B): 65535, (A,): 0}, [A, B]), ".m")
        self.assertEqual(cut({(A, B): 65535, (B, C): 65535, (C, D): 0}, [A, B, C, D]), ".c.m")
        self.assertEqual(cut({(A, B, C): 1, (A,): 0, (B,): 0}, [A, B, C, D]), "..cm")
        # An unknown one and nothing more is as much as 65535 and 1, and more than 65535.
        self.assertEqual(cut({(A, B): 65535, (C,): 1, (B, C): 0}, [A, B, C]), ".cm")
        self.assertEqual(cut({(A, B): 65535, (C,): 2, (B, C): 0}, [A, B, C]), "c.m")

    def test_of_equal_cuts_the_first_piece_that_differs_is_longer(self):
        self.assertEqual(cut({(A, B): 5, (B, C): 5, (A,): 3, (C,): 3}, [A, B, C]), ".cm")
        self.assertEqual(cut({(A,): 2, (B,): 3, (A, B): 5}, [A, B]), ".m")
        self.assertEqual(cut({(A,): 1, (B,): 1, (C,): 1, (B, C): 2, (D,): 1}, [A, B, C, D]), "c.cm")
        self.assertEqual(cut({(A,): 1, (A, A): 2}, [A, A, A]), ".cm")
        self.assertEqual(cut({(A,): 0, (A, A): 0, (A, A, A): 0}, [A] * 5), "..c.m")
        # Fewer pieces are no aim by themselves.
        self.assertEqual(cut({(A, B): 4, (C,): 1, (D,): 1, (A,): 3, (B, C, D): 3}, [A, B, C, D]), ".ccm")

    def test_marks_go_with_their_unit(self):
        self.assertEqual(cut({(A, MARK): 1, (B,): 1}, [A, MARK, B]), ".cm")
        self.assertEqual(cut({(A, MARK, B): 1}, [A, MARK, B]), "..m")
        self.assertEqual(cut({(A,): 1, (MARK, B): 1}, [A, MARK, B]), ".cm")
        self.assertEqual(cut({(A, OTHER_MARK, B): 1}, [A, OTHER_MARK, B]), "..m")
        self.assertEqual(cut({(A, B): 1}, [A, OTHER_MARK, B]), ".cm")
        self.assertEqual(cut({(A, SPACING, B): 1}, [A, SPACING, B]), "..m")

    def test_a_mark_of_sa_that_begins_a_unit_is_such_a_unit(self):
        self.assertEqual(cut({}, [MARK, A]), "cm")
        self.assertEqual(cut({(MARK, A): 1}, [MARK, A]), ".m")
        self.assertEqual(cut({(MARK, OTHER_MARK, A): 1}, [SPACE, MARK, OTHER_MARK, A]), "c..m")
        self.assertEqual(cut({}, [OTHER_MARK, A]), ".m")

    def test_rows_are_parted_by_what_is_no_such_unit(self):
        self.assertEqual(cut({}, [A, LETTER, B]), "..m")
        self.assertEqual(cut({(A, LETTER): 0, (LETTER, B): 0}, [A, LETTER, B, C]), "..cm")
        self.assertEqual(cut({(LETTER, B, C): 0}, [LETTER, B, C]), ".cm")
        self.assertEqual(cut({(A, B, LETTER): 0}, [A, B, LETTER]), "c.m")
        self.assertEqual(cut({(A, B): 1, (SPACE, A): 1}, [A, B, SPACE, A, B]), "..c.m")
        self.assertEqual(cut({(A, BREAK): 0, (BREAK, B): 0}, [A, BREAK, B, A]), ".mcm")
        self.assertEqual(cut({(A, B): 1}, [A, IDEOGRAPH, A, B]), "cc.m")

    def test_behind_a_joiner_none_but_the_cut_does_not_hang_on_it(self):
        self.assertEqual(cut({}, [A, JOINER, B]), "..m")
        costs = {(A, JOINER): 1, (B,): 1, (C,): 1, (B, C): 9, (A, JOINER, B): 9}
        self.assertEqual(cut(costs, [A, JOINER, B, C]), "..cm")
        self.assertEqual(cut({(A, JOINER): 1, (B, C): 1, (A, JOINER, B): 1, (C,): 1}, [A, JOINER, B, C]), "..cm")
        self.assertEqual(cut({(A, JOINER): 1, (B, C): 0, (A, JOINER, B): 1, (C,): 1}, [A, JOINER, B, C]), "...m")

    def test_other_ways(self):
        costs = {(A, B): 1}
        self.assertEqual(cut(costs, [A, B, C], WORDS | BREAK_ALL), "ccm")
        self.assertEqual(cut(costs, [A, B, C], BREAK_ALL), "ccm")
        self.assertEqual(cut({}, [MARK, OTHER_MARK, SPACE, MARK, A], WORDS | BREAK_ALL), "..ccm")
        for more in (KEEP_ALL, LOOSE, EASTERN):
            self.assertEqual(cut(costs, [A, B, C], WORDS | more), ".cm")
        self.assertEqual(cut(costs, [A, B, IDEOGRAPH, A, B, C], WORDS | KEEP_ALL), "....cm")

    def test_other_sequences_are_no_words(self):
        book = book_call(properties=PROPERTIES, sequences=[(0, [A, B], [0]), (2, [A, B], [1])])
        self.assertEqual(letters(run(book, chances_call(WORDS, [A, B]))[1]), "cm")

    def test_keys_of_the_greatest_length(self):
        key = [A, B] * 16
        self.assertEqual(cut({tuple(key): 1}, key + [A]), "." * 31 + "cm")

    def test_a_row_of_64(self):
        self.assertEqual(cut({(A, A, A): 1}, [A] * 64), "..c" * 21 + "m")


def priced_cuts(costs, text):
    """Every allowed cut of a row without marks, with its cost."""
    for bits in itertools.product(".c", repeat=len(text) - 1):
        told = "".join(bits) + "m"
        pieces, first = [], 0
        for place, letter in enumerate(told):
            if letter != ".":
                pieces.append(tuple(text[first:place + 1]))
                first = place + 1
        prices = [costs.get(piece, 65536 if len(piece) == 1 else None) for piece in pieces]
        if None not in prices:
            yield sum(prices), [-len(piece) for piece in pieces], told


class F9(unittest.TestCase):
    def test_no_cut_costs_less(self):
        source = random.Random(90)
        for turn in range(250):
            keys = [tuple(source.choices((A, B, C), k=source.randint(1, 4))) for count in range(source.randint(0, 12))]
            costs = {key: source.choice((0, 1, 2, 3, 4, 65535)) for key in keys}
            text = source.choices((A, B, C), k=source.randint(2, 9))
            self.assertEqual(cut(costs, text), min(priced_cuts(costs, text))[2], (costs, text))


if __name__ == "__main__":
    unittest.main()
