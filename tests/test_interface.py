"""The list of calls, and what is kept and changed: nothing."""

import copy
import unittest

import brokenlinesdesk
from brokenlinesdesk.lines import UnknownCall, answers
from tests.helper import CLASS_BOOK, WORDS, book_call, chances_call, flat, row, run, text_of, width_call


class Interface(unittest.TestCase):
    def test_how_many_numbers_are_answered_and_these(self):
        self.assertEqual(answers(book_call()), [1, 0])
        self.assertEqual(answers(book_call(properties=[(6, 65, 65, 48)])), [3, -5, 8, 0])
        self.assertEqual(answers([1] + row([0] * 8193) + [0, 0, 0]), [1, -6])
        self.assertEqual(answers([2, 0, 3, 65, 66, 67]), [5, 0, 3, 0, 0, 2])
        self.assertEqual(answers([2, 0, 0]), [2, 0, 0])
        self.assertEqual(answers([2, 3, 1, 65]), [1, -1])
        self.assertEqual(answers([2, 0] + row([65] * 65)), [1, -6])
        self.assertEqual(answers([3, 0, 3, 65, 66, 67]), [1, 3])
        self.assertEqual(answers([3, 3, 1, 65]), [1, -1])
        self.assertEqual(answers([3, 0] + row([65] * 65)), [1, -6])

    def test_calls_one_behind_another_in_any_order(self):
        calls = [width_call(0, [65, 66]), chances_call(0, [32, 65]), book_call(properties=[(6, 32, 32, 41), (7, 65, 65, 3)])]
        calls += [width_call(0, [65, 66]), chances_call(0, [32, 65])]
        self.assertEqual(run(*calls), [[2], [0, 2, 0, 2], [0], [3], [0, 2, 1, 2]])

    def test_400_calls(self):
        self.assertEqual(run(*[width_call(0, [])] * 399 + [chances_call(0, [65] * 20)]), [[0]] * 399 + [[0, 20] + [0] * 19 + [2]])

    def test_a_new_book_takes_the_old_ones_place(self):
        first = book_call(properties=[(7, 65, 65, 3)])
        second = book_call(properties=[(7, 66, 66, 3)])
        width = width_call(0, [65, 66, 66])
        self.assertEqual(run(first, width, second, width), [[0], [4], [0], [5]])

    def test_what_is_handed_in_is_not_changed(self):
        calls = flat([CLASS_BOOK, chances_call(WORDS, text_of("SA SA SP AL")), width_call(0, text_of("AL CM SP")),
                      book_call(maps=[(1, 65, [66])], sequences=[(1, [65], [5]), (2, [65, 66], [9])]),
                      book_call(maps=[(0, 65, [66])]), chances_call(3, [65])])
        before = copy.deepcopy(calls)
        answers(calls)
        self.assertEqual(calls, before)

    def test_not_even_for_a_while(self):
        class Watched(list):
            def refuse(self, *args):
                raise AssertionError("changed")
            append = extend = insert = pop = remove = clear = sort = reverse = refuse
            __setitem__ = __delitem__ = __iadd__ = __imul__ = refuse
        calls = Watched(flat([CLASS_BOOK, chances_call(WORDS, text_of("SA SA SP AL")), width_call(0, text_of("AL CM SP"))]))
        self.assertEqual(answers(calls), answers(list(calls)))

    def test_nothing_is_kept_from_one_time_to_the_next(self):
        width = width_call(0, [65])
        book = book_call(properties=[(7, 65, 65, 3)])
        first = answers(flat([width, book, width]))
        self.assertEqual(answers(flat([width, book, width])), first)
        self.assertEqual(first, [1, 1, 1, 0, 1, 2])
        self.assertEqual(answers(width), [1, 1])

    def test_what_is_answered_is_new_each_time(self):
        calls = [2, 0, 2, 65, 66]
        first = answers(calls)
        first.append(7)
        self.assertEqual(answers(calls), [4, 0, 2, 0, 2])

    def test_plain_whole_numbers(self):
        told = answers(flat([CLASS_BOOK, chances_call(0, text_of("AL SP AL")), width_call(0, [65]), width_call(3, [])]))
        self.assertIs(type(told), list)
        for number in told:
            self.assertIs(type(number), int)

    def test_a_call_that_is_none(self):
        for number in (0, 7):
            with self.assertRaises(UnknownCall):
                answers([number, 0, 0])

    def test_the_package_has_a_name(self):
        self.assertEqual(brokenlinesdesk.__name__, "brokenlinesdesk")

    def test_large_books_in_time(self):
        # As deep, as long and as often as the rules allow: nothing here may take more than a moment.
        chain = [(1, 1000 + place, [999 + place]) for place in range(1, 8)] + [(1, 1000, [2000] * 18)]
        folds = [(5, 5000 + place, [1007] * 3) for place in range(1150)]
        deep = [(5, 2000, [3007] * 3)] + [(1, 3000 + place, [2999 + place]) for place in range(1, 8)]
        deep += [(1, 3000, [4000] * 18)]
        self.assertEqual(run(book_call(maps=sorted(chain + folds + deep))), [[0]])
        walked = book_call(properties=[(0, 0x2000, 0x2FFF, 9), (2, 0x2000, 0x2FFF, 4)])
        self.assertEqual(run(*[walked] * 40), [[0]] * 40)


if __name__ == "__main__":
    unittest.main()
