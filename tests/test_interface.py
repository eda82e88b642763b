"""The list of calls, and what is kept and changed: nothing."""

import copy
import unittest

import brokenlinesdesk
from brokenlinesdesk.lines import UnknownCall, answers
from tests.helper import (
    CLASS_BOOK, LINES_BOOK, SPLIT, WORDS, book_call, chances_call, fill_call, flat, measure_call, ragged_call,
    raw_book_call, row, run, scalars_of, tab, text_of, width_call,
)

# All six calls in one list, some of them refused, with refused books between.
MIXED = [
    measure_call(0, [97, 32]), LINES_BOOK, fill_call(0, 5, scalars_of("aa_bb_cc"), [0, 0, 1, 0, 0, 1, 0, 2]),
    book_call(properties=[(7, 97, 97, 6)]), chances_call(0, scalars_of("a_b|")),
    ragged_call(0, 3, scalars_of("a_b_cc"), [0, 1, 0, 1, 0, 2]), width_call(tab(4), scalars_of("a-B")),
    raw_book_call([0] * 8193), measure_call(0, scalars_of("A__")), fill_call(SPLIT, 2, scalars_of("aaa"), [0, 0, 2]),
    ragged_call(0, 0, [97], [2]), fill_call(0, 1, [97], [2] * 65), measure_call(3, []),
    book_call(properties=[(7, 97, 97, 3)]), ragged_call(0, 3, scalars_of("a_b_cc"), [0, 1, 0, 1, 0, 2]),
    measure_call(0, [97, 32]),
]
MIXED_ANSWERS = [
    [2], [0], [0, 4, 0, 6, 6, 8], [-5, 8, 0], [0, 4, 0, 1, 0, 2], [0, 4, 0, 4, 4, 6], [6], [-6], [2], [0, 4, 0, 2, 2, 3],
    [-1], [-6], [-1], [0], [0, 6, 0, 2, 2, 4, 4, 6], [3],
]


class Interface(unittest.TestCase):
    def test_how_many_numbers_are_answered_and_these(self):
        self.assertEqual(answers(book_call()), [1, 0])
        self.assertEqual(answers(book_call(properties=[(6, 65, 65, 48)])), [3, -5, 8, 0])
        self.assertEqual(answers([1] + row([0] * 8193) + [0, 0, 0]), [1, -6])
        self.assertEqual(answers([2, 0, 3, 65, 66, 67]), [5, 0, 3, 0, 0, 2])
        self.assertEqual(answers([2, 0, 0]), [2, 0, 0])
        self.assertEqual(answers([2, 3, 1, 65]), [1, -1])
        self.assertEqual(answers([2, 0] + row([65] * 65)), [1, -6])
        self.assertEqual(answers([3, 0, 3, 65, 66, 67]), [1, 3])
        self.assertEqual(answers([3, 3, 1, 65]), [1, -1])
        self.assertEqual(answers([3, 0] + row([65] * 65)), [1, -6])

    def test_the_same_of_lines_and_measures(self):
        self.assertEqual(answers([4, 0, 2, 3, 65, 66, 67, 3, 0, 1, 2]), [6, 0, 4, 0, 2, 2, 3])
        self.assertEqual(answers([4, 0, 2, 0, 0]), [2, 0, 0])
        self.assertEqual(answers([4, 0, 0, 1, 65, 1, 2]), [1, -1])
        self.assertEqual(answers([4, 0, 1] + row([65] * 65) + row([2])), [1, -6])
        self.assertEqual(answers([5, 0, 2, 3, 65, 66, 67, 3, 0, 1, 2]), [6, 0, 4, 0, 2, 2, 3])
        self.assertEqual(answers([5, 0, 2, 0, 0]), [2, 0, 0])
        self.assertEqual(answers([5, 0, 0, 1, 65, 1, 2]), [1, -1])
        self.assertEqual(answers([5, 0, 1] + row([65] * 65) + row([2])), [1, -6])
        self.assertEqual(answers([6, 0, 3, 65, 66, 67]), [1, 3])
        self.assertEqual(answers([6, 0, 0]), [1, 0])
        self.assertEqual(answers([6, 3, 1, 65]), [1, -1])
        self.assertEqual(answers([6, 0] + row([65] * 65)), [1, -6])

    def test_all_six_calls_mixed(self):
        self.assertEqual(run(*MIXED), MIXED_ANSWERS)

    def test_a_second_call_answers_as_if_it_were_the_first(self):
        for call, answer in zip(MIXED[2:13], MIXED_ANSWERS[2:13]):
            self.assertEqual(run(LINES_BOOK, call, call), [[0], answer, answer])
            self.assertEqual(run(LINES_BOOK, *MIXED[2:13], call)[-1], answer)

    def test_each_order_of_the_calls(self):
        # None but a book that is taken changes what another call answers.
        calls = MIXED[2:13]
        for turn in range(len(calls)):
            told = run(LINES_BOOK, *calls[turn:], *calls[:turn])[1:]
            self.assertEqual(told, MIXED_ANSWERS[2 + turn:13] + MIXED_ANSWERS[2:2 + turn])

    def test_calls_one_behind_another_in_any_order(self):
        calls = [width_call(0, [65, 66]), chances_call(0, [32, 65]), book_call(properties=[(6, 32, 32, 41), (7, 65, 65, 3)])]
        calls += [width_call(0, [65, 66]), chances_call(0, [32, 65])]
        self.assertEqual(run(*calls), [[2], [0, 2, 0, 2], [0], [3], [0, 2, 1, 2]])

    def test_400_calls(self):
        self.assertEqual(run(*[width_call(0, [])] * 399 + [chances_call(0, [65] * 20)]), [[0]] * 399 + [[0, 20] + [0] * 19 + [2]])

    def test_a_new_book_takes_the_old_ones_place(self):
        first = book_call(properties=[(7, 65, 65, 3)])
        second = book_call(properties=[(7, 66, 66, 3)])
        width = width_call(0, [65, 66, 66])
        self.assertEqual(run(first, width, second, width), [[0], [4], [0], [5]])

    def test_what_is_handed_in_is_not_changed(self):
        calls = flat([CLASS_BOOK, chances_call(WORDS, text_of("SA SA SP AL")), width_call(0, text_of("AL CM SP")),
                      book_call(maps=[(1, 65, [66])], sequences=[(1, [65], [5]), (2, [65, 66], [9])]),
                      book_call(maps=[(0, 65, [66])]), chances_call(3, [65])] + MIXED)
        before = copy.deepcopy(calls)
        answers(calls)
        self.assertEqual(calls, before)

    def test_not_even_for_a_while(self):
        class Watched(list):
            def refuse(self, *args):
                raise AssertionError("changed")
            append = extend = insert = pop = remove = clear = sort = reverse = refuse
            __setitem__ = __delitem__ = __iadd__ = __imul__ = refuse
        calls = Watched(flat([CLASS_BOOK, chances_call(WORDS, text_of("SA SA SP AL")), width_call(0, text_of("AL CM SP"))] + MIXED))
        self.assertEqual(answers(calls), answers(list(calls)))

    def test_nothing_is_kept_from_one_time_to_the_next(self):
        width = width_call(0, [65])
        book = book_call(properties=[(7, 65, 65, 3)])
        first = answers(flat([width, book, width]))
        self.assertEqual(answers(flat([width, book, width])), first)
        self.assertEqual(first, [1, 1, 1, 0, 1, 2])
        self.assertEqual(answers(width), [1, 1])
        mixed = answers(flat(MIXED))
        self.assertEqual(answers(flat(MIXED)), mixed)
        self.assertEqual(answers(measure_call(0, [97, 32])), [1, 2])
        self.assertEqual(answers(fill_call(0, 2, [97, 97], [1, 2])), [4, 0, 2, 0, 2])

    def test_what_is_answered_is_new_each_time(self):
        calls = [2, 0, 2, 65, 66]
        first = answers(calls)
        first.append(7)
        self.assertEqual(answers(calls), [4, 0, 2, 0, 2])
        for calls in (fill_call(0, 1, [65, 66], [1, 2]), ragged_call(0, 1, [65, 66], [1, 2])):
            answers(calls).clear()
            self.assertEqual(answers(calls), [6, 0, 4, 0, 1, 1, 2])

    def test_plain_whole_numbers(self):
        told = answers(flat([CLASS_BOOK, chances_call(0, text_of("AL SP AL")), width_call(0, [65]), width_call(3, [])] + MIXED))
        self.assertIs(type(told), list)
        for number in told:
            self.assertIs(type(number), int)

    def test_a_call_that_is_none(self):
        for number in (0, 7):
            with self.assertRaises(UnknownCall):
                answers([number, 0, 0])

    def test_the_package_has_a_name(self):
        self.assertEqual(brokenlinesdesk.__name__, "brokenlinesdesk")

    def test_large_books_in_time(self):
        # As deep, as long and as often as the rules allow: nothing here may take more than a moment.
        chain = [(1, 1000 + place, [999 + place]) for place in range(1, 8)] + [(1, 1000, [2000] * 18)]
        folds = [(5, 5000 + place, [1007] * 3) for place in range(1150)]
        deep = [(5, 2000, [3007] * 3)] + [(1, 3000 + place, [2999 + place]) for place in range(1, 8)]
        deep += [(1, 3000, [4000] * 18)]
        self.assertEqual(run(book_call(maps=sorted(chain + folds + deep))), [[0]])
        walked = book_call(properties=[(0, 0x2000, 0x2FFF, 9), (2, 0x2000, 0x2FFF, 4)])
        self.assertEqual(run(*[walked] * 40), [[0]] * 40)


if __name__ == "__main__":
    unittest.main()
