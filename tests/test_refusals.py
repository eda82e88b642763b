"""What fill and ragged refuse, in which order, and that nothing has changed then."""

import unittest

from tests.helper import SPLIT, book_call, chances_call, fill_call, measure_call, ragged_call, run, width_call

NO_SCALARS = (0xD800, 0xDFFF, 0x110000, 4294967295)
NO_WAYS = (3, 7, 67, 12, 13, 128, 1 << 14, 1 << 20, 1 << 31, 4294967295)


class LinesRefused(unittest.TestCase):
    def both(self, w, columns, text, marks, wanted):
        self.assertEqual(run(fill_call(w, columns, text, marks)), [wanted], "fill")
        self.assertEqual(run(ragged_call(w, columns, text, marks)), [wanted], "ragged")

    def test_columns(self):
        self.both(0, 0, [65, 66], [1, 2], [-1])
        self.both(0, 1, [65, 66], [1, 2], [0, 4, 0, 1, 1, 2])
        self.both(0, 2, [65, 66], [1, 2], [0, 2, 0, 2])
        self.both(0, 65535, [65, 66], [1, 2], [0, 2, 0, 2])
        self.both(0, 65536, [65, 66], [1, 2], [-1])
        self.both(0, 4294967295, [65, 66], [1, 2], [-1])
        self.both(0, 0, [], [], [-1])
        self.both(0, 65536, [], [], [-1])
        self.both(0, 65535, [], [], [0, 0])

    def test_ways(self):
        for w in NO_WAYS:
            self.both(w, 5, [65], [2], [-1])
            self.both(w, 5, [], [], [-1])
        for w in (0, 1, 2, 4, 8, 16, 32, SPLIT, 2 | 4 | 16 | 32 | 64 | 63 << 8, 1 | 8 | 16 | 32 | 64):
            self.both(w, 5, [65], [2], [0, 2, 0, 1])

    def test_too_few_marks(self):
        self.both(0, 5, [65, 66, 67], [1, 2], [-1])
        self.both(0, 5, [65], [], [-1])

    def test_too_many_marks(self):
        self.both(0, 5, [65, 66], [1, 1, 2], [-1])
        self.both(0, 5, [65, 66], [1, 2, 2], [-1])
        self.both(0, 5, [], [2], [-1])
        self.both(0, 5, [], [0], [-1])

    def test_none_for_an_empty_text(self):
        self.both(0, 5, [], [], [0, 0])

    def test_a_mark_above_2(self):
        for mark in (3, 4, 4294967295):
            self.both(0, 5, [65, 66, 67], [mark, 1, 2], [-1])
            self.both(0, 5, [65, 66, 67], [0, mark, 2], [-1])
            self.both(0, 5, [65, 66, 67], [0, 1, mark], [-1])

    def test_a_last_mark_that_is_no_must(self):
        self.both(0, 5, [65, 66, 67], [2, 2, 0], [-1])
        self.both(0, 5, [65, 66, 67], [2, 2, 1], [-1])
        self.both(0, 5, [65], [1], [-1])
        self.both(0, 5, [65, 66, 67], [0, 0, 2], [0, 2, 0, 3])

    def test_numbers_that_are_no_scalars(self):
        for number in NO_SCALARS:
            self.both(0, 5, [number], [2], [-1])
            self.both(0, 5, [65, 66, number], [0, 0, 2], [-1])
        self.both(0, 5, [0, 0xD7FF, 0xE000, 0x10FFFF], [0, 0, 0, 2], [0, 2, 0, 4])

    def test_64_and_65_numbers(self):
        self.both(0, 64, [65] * 64, [0] * 63 + [2], [0, 2, 0, 64])
        self.both(0, 64, [65] * 65, [0] * 64 + [2], [-6])
        self.both(0, 64, [65] * 64, [0] * 64 + [2], [-6])
        self.both(0, 64, [65] * 65, [0] * 63 + [2], [-6])
        self.both(0, 64, [65] * 100, [0] * 99 + [2], [-6])
        self.both(0, 64, [], [2] * 65, [-6])
        self.both(0, 64, [65] * 65, [], [-6])
        self.both(0, 64, [65] * 64, [0] * 62 + [2], [-1])

    def test_too_long_comes_before_wrong(self):
        for text, marks in (([65] * 65, [2]), ([65], [2] * 65), ([0xD800] * 65, [3] * 65)):
            for w in (0, 3):
                for columns in (0, 5, 65536):
                    self.both(w, columns, text, marks, [-6])

    def test_nothing_has_changed(self):
        book = book_call(properties=[(7, 65, 65, 3)])
        asked = [fill_call(0, 2, [65, 65], [1, 2]), ragged_call(0, 2, [65, 65], [1, 2]), measure_call(0, [65]),
                 width_call(0, [65]), chances_call(0, [65])]
        refused = [fill_call(3, 5, [66], [2]), fill_call(0, 0, [66], [2]), fill_call(0, 5, [66] * 65, [2]),
                   ragged_call(0, 5, [66], [1]), ragged_call(0, 65536, [66], [2]), ragged_call(0, 5, [66], [2] * 65),
                   measure_call(3, [66]), measure_call(0, [66] * 65), measure_call(0, [0xD800])]
        first = run(book, *asked)
        told = run(book, *refused, *asked)
        self.assertEqual(told[1:10], [[-1], [-1], [-6], [-1], [-1], [-6], [-1], [-6], [-1]])
        self.assertEqual(told[10:], first[1:])


if __name__ == "__main__":
    unittest.main()
