"""Promises F5 to F7 of lines, over texts and marks made up."""

import itertools
import random
import unittest

from tests.helper import (
    EASTERN, LINES_BOOK, PLAIN_BOOK, SIGNS, SPLIT, all_measures, borders_of, filled, own_marks, ragged, scalars_of, tab,
)


class Case:
    def __init__(self, source, letters, w, book):
        self.written = "".join(source.choices(letters, k=source.randint(1, 10)))
        free = "".join(source.choices("...cccm", k=len(self.written) - 1)) + "m"
        self.marks = source.choice([own_marks(self.written, w, book), free])
        self.columns = source.randint(1, 7)
        self.w = w
        self.book = book
        self.measures = all_measures(scalars_of(self.written), w, book)
        self.chances = [place + 1 for place, letter in enumerate(self.marks) if letter != "."]
        self.musts = [place + 1 for place, letter in enumerate(self.marks) if letter == "m"]

    def filled(self, more=0):
        return filled(self.written, self.marks, self.columns, self.w | more, self.book)

    def ragged(self):
        return ragged(self.written, self.marks, self.columns, self.w, self.book)

    def inside(self, line):
        return [place for place in self.chances if line[0] < place < line[1]]

    def fits(self, begin, end):
        return self.measures[begin, end] <= self.columns

    def is_cluster(self, line):
        return borders_of(self.written[line[0]:line[1]]) == [line[1] - line[0]]


ALL_LETTERS = list(SIGNS) + ["a", "b", "A", "o"]


def cases(seed, count, book=LINES_BOOK, ways=(0, EASTERN, tab(4), EASTERN | tab(3))):
    source = random.Random(seed)
    for turn in range(count):
        letters = source.sample(ALL_LETTERS, source.randint(1, 6)) + ["_"]
        yield Case(source, letters, source.choice(ways), book)


class Promises(unittest.TestCase):
    def parts(self, case, lines):
        self.assertEqual([0] + [end for begin, end in lines], [begin for begin, end in lines] + [len(case.written)])
        self.assertTrue(all(begin < end for begin, end in lines))
        ends = [end for begin, end in lines]
        self.assertTrue(all(must in ends for must in case.musts))

    def test_f5_lines_part_the_text(self):
        for case in cases(5, 250):
            for lines in (case.filled(), case.filled(SPLIT), case.ragged()):
                self.parts(case, lines)

    def test_f5_each_end_is_a_chance(self):
        for case in cases(51, 250):
            for lines in (case.filled(), case.ragged()):
                self.assertTrue(all(end in case.chances for begin, end in lines))

    def test_f5_with_split_a_chance_or_a_border(self):
        split = 0
        for case in cases(52, 250):
            for begin, end in case.filled(SPLIT):
                if end not in case.chances:
                    first = min(place for place in case.chances if place > begin)
                    self.assertIn(end - begin, borders_of(case.written[begin:first]))
                    split += 1
        self.assertGreater(split, 50)

    def test_f5_a_line_that_is_too_wide_has_no_chance_inside(self):
        wide = 0
        for case in cases(53, 250):
            for line in case.filled():
                if not case.fits(*line):
                    self.assertEqual(case.inside(line), [])
                    wide += 1
        self.assertGreater(wide, 50)

    def test_f5_with_split_it_is_one_cluster(self):
        wide = 0
        for case in cases(54, 400):
            for line in case.filled(SPLIT):
                if not case.fits(*line):
                    self.assertTrue(case.is_cluster(line), (case.written, line))
                    wide += 1
        self.assertGreater(wide, 50)

    def test_f6_no_line_could_have_gone_farther(self):
        for case in cases(6, 250):
            for lines in (case.filled(), case.filled(SPLIT)):
                for begin, end in lines:
                    must = min(place for place in case.musts if place >= end)
                    for place in case.chances:
                        if end < place <= must:
                            self.assertFalse(case.fits(begin, place), (case.written, case.marks, begin, end, place))


class FewestLines(unittest.TestCase):
    def fewest(self, case):
        """How many lines the cuts have at least whose lines all fit."""
        free = [place for place in case.chances if place not in case.musts]
        for count in range(len(free) + 1):
            for chosen in itertools.combinations(free, count):
                ends = sorted(list(chosen) + case.musts)
                if all(case.fits(*line) for line in zip([0] + ends, ends)):
                    return len(ends)
        raise AssertionError("no cut fits")

    def test_f7_filled_lines_are_the_fewest(self):
        seen = 0
        for case in cases(7, 500, PLAIN_BOOK, (0, EASTERN)):
            lines = case.filled()
            if all(case.fits(*line) for line in lines):
                self.assertEqual(len(lines), self.fewest(case), (case.written, case.marks))
                self.assertGreaterEqual(len(case.ragged()), len(lines))
                seen += len(lines) > 2
        self.assertGreater(seen, 50)


class Badness(unittest.TestCase):
    def badness(self, case, lines):
        passes = [case.measures[line] - case.columns for line in lines if not case.fits(*line)]
        inner = [line for line in lines if case.fits(*line) and line[1] not in case.musts]
        return (sum(passes), sum((case.columns - case.measures[line]) ** 2 for line in inner), len(lines))

    def test_f7_no_allowed_cut_has_less_badness(self):
        equal = 0
        for case in cases(77, 700):
            if len(case.musts) > 1:
                continue
            taken = case.ragged()
            free = case.chances[:-1]
            for count in range(len(free) + 1):
                for chosen in itertools.combinations(free, count):
                    ends = list(chosen) + case.musts
                    lines = list(zip([0] + ends, ends))
                    self.assertLessEqual(self.badness(case, taken), self.badness(case, lines))
                    if self.badness(case, taken) == self.badness(case, lines) and lines != taken:
                        first = min(at for at in range(len(lines)) if lines[at] != taken[at])
                        self.assertGreater(taken[first][1], lines[first][1])
                        equal += 1
        self.assertGreater(equal, 10)

    def test_f7_filled_lines_have_no_less(self):
        for case in cases(78, 250):
            self.assertLessEqual(self.badness(case, case.ragged()), self.badness(case, case.filled()))


if __name__ == "__main__":
    unittest.main()
