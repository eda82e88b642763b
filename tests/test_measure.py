"""The measure of a line: its width without what is left away at its end."""

import random
import unittest

from tests.helper import (
    AMBIGUOUS, BREAK_ALL, CLASS_BOOK, CLASS_NAMES, EASTERN, KEEP_ALL, LINES_BOOK, LOOSE, NORMAL, SPACE, SPLIT,
    TOKENS, WORDS, book_call, measure, measure_call, measures, run, scalars_of, tab, text_of, width_call,
)

LEFT_AWAY = ("SP", "BK", "CR", "LF", "NL", "ZW")


def class_measure(tokens, w=0):
    return measures([text_of(tokens)], w, CLASS_BOOK)[0]


class Measure(unittest.TestCase):
    def test_of_a_text_without_an_end_to_leave_away(self):
        self.assertEqual(measure("abc"), 3)
        self.assertEqual(measure("aBc"), 4)
        self.assertEqual(measure("a_b"), 3)

    def test_each_class_at_the_end(self):
        for name in CLASS_NAMES:
            wanted = 1 if name in LEFT_AWAY else 2
            self.assertEqual(class_measure(f"ID {name}"), wanted, name)
            self.assertEqual(class_measure(f"ID {name} ID"), 3, name)

    def test_under_all_ways(self):
        for w in (NORMAL, LOOSE, BREAK_ALL, KEEP_ALL, WORDS, EASTERN, SPLIT, LOOSE | BREAK_ALL | EASTERN | SPLIT):
            for name in CLASS_NAMES:
                wanted = 1 if name in LEFT_AWAY else 2
                self.assertEqual(class_measure(f"ID {name}", w), wanted, (w, name))

    def test_several_at_the_end(self):
        self.assertEqual(class_measure("AL SP SP SP"), 1)
        self.assertEqual(class_measure("AL SP ZW SP BK"), 1)
        self.assertEqual(class_measure("AL SP CR LF"), 1)
        self.assertEqual(class_measure("AL NL SP BK ZW LF CR SP"), 1)
        self.assertEqual(class_measure("SP SP AL SP SP"), 3)
        self.assertEqual(class_measure("AL SP ID SP"), 3)
        self.assertEqual(class_measure("AL SP GL SP"), 3)

    def test_wide_ones_are_left_away_too(self):
        for name in LEFT_AWAY:
            self.assertEqual(class_measure(f"ID {name}W"), 1)
            self.assertEqual(class_measure(f"{name}W ID"), 3)

    def test_marks_behind_a_space_are_a_unit_of_their_own(self):
        for name in LEFT_AWAY:
            for mark in ("CM", "ZWJ", "SAn"):
                # Of general class So, but SAn: as wide as 1.
                wide = 0 if mark == "SAn" else 1
                self.assertEqual(class_measure(f"AL {name} {mark}"), 2 + wide, (name, mark))
                self.assertEqual(class_measure(f"AL {name} {mark} {name}"), 2 + wide, (name, mark))
        self.assertEqual(measure("a_^"), 2)
        self.assertEqual(measure("a_^_"), 2)
        self.assertEqual(measure("a^_"), 1)
        self.assertEqual(measure("a_^^"), 2)

    def test_a_text_of_spaces_alone(self):
        self.assertEqual(measure("_"), 0)
        self.assertEqual(measure("____"), 0)
        self.assertEqual(measure("<>"), 0)
        self.assertEqual(measure("z_|!"), 0)
        self.assertEqual(measure("_" * 64), 0)

    def test_the_empty_text(self):
        self.assertEqual(measure(""), 0)

    def test_without_a_book(self):
        # No scalar has a class then, so none is left away.
        self.assertEqual(run(measure_call(0, [65, 32, 32])), [[3]])

    def test_tab(self):
        self.assertEqual(measure("a-b", tab(4)), 5)
        self.assertEqual(measure("a-", tab(4)), 4)
        self.assertEqual(measure("a-_", tab(4)), 4)
        self.assertEqual(measure("-_-_", tab(4)), 8)
        self.assertEqual(measure("a-b", tab(0)), 3)
        spaced = book_call(properties=[(6, 9, 9, 41)])
        self.assertEqual(measures([[65, 9], [9], [65, 9, 65]], tab(8), spaced), [1, 0, 9])

    def test_eastern(self):
        self.assertEqual(measure("a?_"), 2)
        self.assertEqual(measure("a?_", EASTERN), 3)
        self.assertEqual(measures([[AMBIGUOUS, SPACE, AMBIGUOUS, SPACE]], EASTERN), [5])

    def test_whole_clusters(self):
        self.assertEqual(measure("o"), 1)
        self.assertEqual(measure("o^"), 1)
        self.assertEqual(measure("o^^"), 0)
        self.assertEqual(measure("ao^^_"), 1)
        self.assertEqual(measure("#+#"), 1)
        self.assertEqual(measure("#"), 2)

    def test_clusters_are_those_of_what_is_left(self):
        # A prepending scalar and the space behind it are one cluster, which the width of both is taken by.
        wholes = book_call(properties=[(2, 0x600, 0x600, 7), (6, 32, 32, 41)], sequences=[(2, [0x600, 32], [9])])
        self.assertEqual(run(wholes, width_call(0, [0x600, 32]), measure_call(0, [0x600, 32])), [[0], [9], [1]])
        # A space that extends what is before it is a unit all the same.
        extends = book_call(properties=[(2, 32, 32, 4), (6, 32, 32, 41), (7, 32, 32, 3)])
        self.assertEqual(run(extends, width_call(0, [65, 32]), measure_call(0, [65, 32])), [[0], [2], [1]])

    def test_is_the_width_of_a_row_whose_end_stays(self):
        for written in ("abc", "a_b", "o^^o", "A-B", "**a*", "#+#+#"):
            for w in (0, EASTERN, tab(4)):
                told = run(LINES_BOOK, width_call(w, scalars_of(written)), measure_call(w, scalars_of(written)))
                self.assertEqual(told[1], told[2])


def units_again(names):
    """The units of a text, by the names of its classes."""
    units = []
    for name in names:
        if units and name in ("CM", "ZWJ", "SAn", "SAc") and units[-1][0] not in LEFT_AWAY:
            units[-1].append(name)
        else:
            units.append([name])
    return units


class Again(unittest.TestCase):
    def test_units_at_the_end(self):
        source = random.Random(6)
        names = [name for name in TOKENS if not name.endswith("W")]
        for turn in range(600):
            kinds = source.sample(names, 3) + source.sample(LEFT_AWAY, 3) + ["CM"]
            chosen = source.choices(kinds, k=source.randint(0, 12))
            units = units_again(chosen)
            while units and units[-1][0] in LEFT_AWAY:
                units.pop()
            left = text_of(" ".join(name for unit in units for name in unit))
            told = run(CLASS_BOOK, width_call(0, left), measure_call(0, text_of(" ".join(chosen))))
            self.assertEqual(told[1], told[2], chosen)


class Refusals(unittest.TestCase):
    def test_too_long(self):
        self.assertEqual(run(measure_call(0, [65] * 64)), [[64]])
        self.assertEqual(run(measure_call(0, [65] * 65)), [[-6]])
        self.assertEqual(run(measure_call(0, [65] * 100)), [[-6]])

    def test_no_ways(self):
        for w in (3, 7, 12, 128, 1 << 14, 1 << 31, 4294967295):
            self.assertEqual(run(measure_call(w, [65])), [[-1]])
            self.assertEqual(run(measure_call(w, [])), [[-1]])
        self.assertEqual(run(measure_call(2 | 4 | 16 | 32 | 64 | 63 << 8, [65])), [[1]])

    def test_no_scalar(self):
        for number in (0xD800, 0xDFFF, 0x110000, 4294967295):
            self.assertEqual(run(measure_call(0, [65, number, 65])), [[-1]])
        self.assertEqual(run(measure_call(0, [0, 0xD7FF, 0xE000, 0x10FFFF])), [[4]])

    def test_too_long_comes_first(self):
        self.assertEqual(run(measure_call(3, [0xD800] * 65)), [[-6]])


if __name__ == "__main__":
    unittest.main()
