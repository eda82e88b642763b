"""Lines of least raggedness."""

import itertools
import random
import unittest

from tests.helper import (
    BREAK_ALL, EASTERN, KEEP_ALL, LINES_BOOK, LOOSE, NORMAL, SIGNS, SPLIT, WORDS, all_measures, book_call, filled,
    lines_of, marks_from, measure, own_marks, ragged, ragged_call, rows_of, run, scalars_of, tab, table_lines,
)


class Ragged(unittest.TestCase):
    def own(self, written, columns, wanted, w=0):
        self.assertEqual(ragged(written, own_marks(written, w), columns, w), wanted)

    def test_what_is_answered(self):
        marks = marks_from("...c..c..c....m")
        told = run(LINES_BOOK, ragged_call(0, 6, scalars_of("aaa_bb_cc_ddddd"), marks))
        self.assertEqual(told, [[0], [0, 6, 0, 4, 4, 10, 10, 15]])
        self.assertEqual(run(ragged_call(0, 1, [65], [2])), [[0, 2, 0, 1]])

    def test_an_empty_text_has_no_lines(self):
        self.assertEqual(run(ragged_call(0, 1, [], [])), [[0, 0]])
        self.assertEqual(run(LINES_BOOK, ragged_call(SPLIT, 65535, [], []))[1], [0, 0])

    def test_a_text_that_fits_is_one_line(self):
        self.own("a", 1, [(0, 1)])
        self.own("aa_bb_cc", 8, [(0, 8)])
        self.own("aa_bb_cc", 65535, [(0, 8)])

    def test_the_rows_last_line_lacks_nothing(self):
        # Were its lack counted, 3 and 2 would have less badness than 0 and 5.
        self.assertEqual([measure("aaa_"), measure("bb_c"), measure("aaa_bb_"), measure("c")], [3, 4, 6, 1])
        self.own("aaa_bb_c", 6, [(0, 7), (7, 8)])

    def test_the_last_line_passes_like_any_other(self):
        # In one line it passes by 2, in two by 1.
        self.assertEqual(ragged("abcdef", "c....m", 4), [(0, 1), (1, 6)])

    def test_a_row_without_a_chance_inside(self):
        self.own("abcdefgh", 3, [(0, 8)])
        self.own("abcdefgh|a_b", 3, [(0, 9), (9, 12)])

    def test_split_is_not_looked_at(self):
        self.assertEqual(ragged("abcdefgh", ".......m", 3, SPLIT), [(0, 8)])
        for text in ("aaaaa_b_c", "aaa_bb_cc_ddddd", "A^^b", "b_aaaaa_c"):
            for columns in range(1, 8):
                marks = own_marks(text)
                self.assertEqual(ragged(text, marks, columns, SPLIT), ragged(text, marks, columns))

    def test_rows_between_musts_are_cut_by_themselves(self):
        self.own("aaa_bb_cc_ddddd|aaa_bb_cc_ddddd", 6, [(0, 4), (4, 10), (10, 16), (16, 20), (20, 26), (26, 31)])
        # The last line of each row lacks nothing, not only the text's.
        self.own("aaa_bb_c|aaa_bb_c", 6, [(0, 7), (7, 9), (9, 16), (16, 17)])
        self.own("a|b_b|c", 9, [(0, 2), (2, 6), (6, 7)])
        self.own("aa<>bb>!c", 9, [(0, 4), (4, 7), (7, 8), (8, 9)])
        self.assertEqual(ragged("abc", "mmm", 9), [(0, 1), (1, 2), (2, 3)])

    def test_a_row_does_not_hang_on_the_others(self):
        rows = ["aaa_bb_cc_ddddd|", "a_b_c_d_e|", "aaaaaaaaaa_b|", "AA_BB_c_d"]
        for columns in range(1, 12):
            wanted = []
            begin = 0
            for written in rows:
                lines = ragged(written, own_marks(written), columns)
                wanted += [(begin + first, begin + behind) for first, behind in lines]
                begin += len(written)
            self.own("".join(rows), columns, wanted)

    def test_marks_that_differ_from_the_texts_own(self):
        self.assertEqual(ragged("aa_bb_cc", ".......m", 5), [(0, 8)])
        self.assertEqual(ragged("aa|bb", "....m", 65535), [(0, 5)])
        self.assertEqual(ragged("abcdef", "cccccm", 3), [(0, 3), (3, 6)])
        self.assertEqual(ragged("abcdef", "cmcccm", 3), [(0, 2), (2, 5), (5, 6)])
        self.assertEqual(ragged("a^b", "c.m", 1), [(0, 1), (1, 3)])

    def test_spaces_at_a_lines_end_take_no_columns(self):
        self.own("aa_____bb", 2, [(0, 7), (7, 9)])
        self.own("aa_____bb", 8, [(0, 7), (7, 9)])
        self.own("aa_bb___", 5, [(0, 8)])

    def test_tab(self):
        self.assertEqual(ragged("a-b", ".cm", 4, tab(4)), [(0, 2), (2, 3)])
        self.assertEqual(ragged("a-b", ".cm", 5, tab(4)), [(0, 3)])
        # Columns are counted from the line's own beginning.
        self.own("aaa_a-b", 5, [(0, 4), (4, 7)], tab(4))

    def test_eastern(self):
        self.assertEqual(ragged("?_?", ".cm", 3), [(0, 3)])
        self.assertEqual(ragged("?_?", ".cm", 3, EASTERN), [(0, 2), (2, 3)])

    def test_a_key_that_is_less_wide_than_a_shorter_row(self):
        self.assertEqual(ragged("ao^^", "cccm", 1), [(0, 4)])
        self.assertEqual(ragged("#+#a", "cccm", 1), [(0, 3), (3, 4)])

    def test_other_ways_are_of_no_account(self):
        for w in (NORMAL, LOOSE, BREAK_ALL, KEEP_ALL, WORDS, LOOSE | KEEP_ALL | WORDS | SPLIT):
            self.assertEqual(ragged("aaa_bb_cc_ddddd", "...c..c..c....m", 6, w), [(0, 4), (4, 10), (10, 15)])

    def test_by_the_book_that_is_there(self):
        call = ragged_call(0, 2, [65, 66, 67], [1, 1, 2])
        wide = book_call(properties=[(7, 66, 66, 3)])
        self.assertEqual(run(call, wide, call), [[0, 4, 0, 2, 2, 3], [0], [0, 6, 0, 1, 1, 2, 2, 3]])

    def test_64_scalars(self):
        text = [97] * 64
        each = [0, 128] + [number // 2 for number in range(1, 129)]
        self.assertEqual(run(ragged_call(0, 1, text, [1] * 63 + [2])), [each])
        self.assertEqual(run(ragged_call(0, 1, text, [2] * 64)), [each])
        self.assertEqual(run(ragged_call(0, 64, text, [1] * 63 + [2])), [[0, 2, 0, 64]])
        self.assertEqual(run(ragged_call(0, 65535, text, [1] * 63 + [2])), [[0, 2, 0, 64]])
        self.assertEqual(run(ragged_call(0, 1, text, [0] * 63 + [2])), [[0, 2, 0, 64]])

    def test_long_calls_in_a_moment(self):
        # Going through every cut would never end.
        call = ragged_call(0, 9, scalars_of("*" * 64), [1] * 63 + [2])
        told = run(LINES_BOOK, *[call] * 7)
        self.assertEqual(told[1:], [told[1]] * 7)
        self.assertEqual(lines_of(told[1])[0], (0, 9))


class Badness(unittest.TestCase):
    """Measures by tables: whatever is not named there is too wide for any cut that would be taken."""

    def least(self, marks, columns, table, wanted):
        whole = dict.fromkeys(rows_of(len(marks)), 900)
        whole.update({(begin, begin + 1): 1 for begin in range(len(marks))})
        whole.update(table)
        self.assertEqual(table_lines(ragged_call, marks, columns, whole), wanted)

    def test_what_passes_comes_first(self):
        # One line passes by 1; two lines lack 90, but none passes.
        self.least(".c..m", 100, {(0, 2): 10, (2, 5): 100, (0, 5): 101}, [(0, 2), (2, 5)])

    def test_what_passes_is_summed(self):
        # 3 in one line; 2 and 2, whose greatest and whose squares' sum are less.
        self.least(".c.m", 10, {(0, 4): 13, (0, 2): 12, (2, 4): 12}, [(0, 4)])
        self.least(".c.m", 10, {(0, 4): 15, (0, 2): 12, (2, 4): 12}, [(0, 2), (2, 4)])

    def test_what_passes_lacks_nothing(self):
        # 4 in one line, 2 and 2 in two: equal, so the fewer lines. Were squares of these counted, the two lines.
        self.least(".c.m", 10, {(0, 4): 14, (0, 2): 12, (2, 4): 12}, [(0, 4)])

    def test_lines_that_pass_and_lines_that_do_not_are_each_one_line(self):
        # 4 in one of two lines, or 2 in each: equal, so the longer first line, whichever cut has it.
        self.least(".c.c..m", 10, {(0, 2): 14, (2, 7): 10, (0, 4): 12, (4, 7): 12}, [(0, 4), (4, 7)])
        self.least(".c.c..m", 10, {(0, 4): 14, (4, 7): 10, (0, 2): 12, (2, 7): 12}, [(0, 4), (4, 7)])
        self.least(".c.c..m", 10, {(0, 4): 10, (4, 7): 14, (0, 2): 12, (2, 7): 12}, [(0, 4), (4, 7)])

    def test_squares_come_before_how_many_lines(self):
        # Lacks 4 in two lines, 2 and 3 in three.
        table = {(0, 3): 6, (3, 6): 9, (0, 2): 8, (2, 4): 7, (4, 6): 10}
        self.least(".ccc.m", 10, table, [(0, 2), (2, 4), (4, 6)])
        # Now 3 and 3: squares of 16 and of 18.
        self.least(".ccc.m", 10, {**table, (0, 2): 7}, [(0, 3), (3, 6)])

    def test_squares_of_each_line(self):
        # Lacks of 3 and 1 have 10, of 0 and 4 have 16, of 2 and 2 have 8.
        table = {(0, 2): 7, (2, 6): 9, (0, 4): 10, (4, 6): 6, (6, 8): 3}
        self.least(".c.c.c.m", 10, table, [(0, 2), (2, 6), (6, 8)])
        self.least(".ccc.c.m", 10, {**table, (0, 3): 8, (3, 6): 8}, [(0, 3), (3, 6), (6, 8)])

    def test_fewer_lines_where_all_else_is_equal(self):
        # Every line is full; the cut in two has the shorter first line.
        table = {(0, 3): 10, (3, 5): 10, (5, 7): 10, (0, 2): 10, (2, 7): 10}
        self.least(".cc.c.m", 10, table, [(0, 2), (2, 7)])

    def test_the_longer_first_line_where_all_is_equal(self):
        table = {(0, 2): 9, (2, 6): 8, (0, 3): 8, (3, 6): 9}
        self.least(".cc..m", 10, {**table, (2, 6): 8, (3, 6): 8, (0, 3): 9}, [(0, 3), (3, 6)])
        # The same squares in another order, before a last line.
        self.least(".cc..c.m", 10, {**table, (6, 8): 1}, [(0, 3), (3, 6), (6, 8)])

    def test_the_first_line_that_differs_need_not_be_the_first(self):
        table = {(0, 2): 5, (2, 4): 7, (4, 8): 9, (2, 5): 9, (5, 8): 7, (8, 10): 1}
        self.least(".c.cc..c.m", 10, table, [(0, 2), (2, 5), (5, 8), (8, 10)])
        self.least(".c.cc..c.m", 10, {**table, (2, 4): 9, (4, 8): 7}, [(0, 2), (2, 5), (5, 8), (8, 10)])

    def test_longer_is_by_scalars_not_by_measure(self):
        self.least(".cc..m", 10, {(0, 2): 10, (2, 6): 3, (0, 3): 10, (3, 6): 9}, [(0, 3), (3, 6)])
        self.least(".cc..c.m", 10, {(0, 2): 9, (2, 6): 6, (0, 3): 6, (3, 6): 9, (6, 8): 2}, [(0, 3), (3, 6), (6, 8)])

    def test_the_greatest_numbers(self):
        # To pass by 1 is worse than to lack 65533 twice.
        table = {(0, 2): 1, (2, 4): 1, (4, 6): 1, (0, 4): 65535, (2, 6): 65535, (0, 6): 65535}
        self.least(".c.c.m", 65534, table, [(0, 2), (2, 4), (4, 6)])
        # What 32 lines pass is summed.
        book = book_call(properties=[(2, 0x300, 0x300, 4)], sequences=[(2, [65, 0x300], [65535])])
        told = run(book, ragged_call(0, 1, [65, 0x300] * 32, [0, 1] * 31 + [0, 2]))
        self.assertEqual(lines_of(told[1]), [(place, place + 2) for place in range(0, 64, 2)])


def every_cut(marks):
    free = [place + 1 for place, letter in enumerate(marks) if letter == "c"]
    musts = [place + 1 for place, letter in enumerate(marks) if letter == "m"]
    for count in range(len(free) + 1):
        for chosen in itertools.combinations(free, count):
            ends = sorted(list(chosen) + musts)
            yield list(zip([0] + ends[:-1], ends))


def badness(lines, marks, columns, table):
    """Of a text of one row: how far it passes, the squares of what it lacks, how many lines."""
    passes = [table[line] - columns for line in lines if table[line] > columns]
    lacks = [columns - table[line] for line in lines if table[line] <= columns and marks[line[1] - 1] != "m"]
    return (sum(passes), sum([lack ** 2 for lack in lacks]), len(lines))


def least_again(marks, columns, table):
    """Row by row, of all cuts the one of least badness; of these the one whose first line that differs is longer."""
    lines = []
    begin = 0
    while begin < len(marks):
        behind = marks.index("m", begin) + 1
        part = marks[begin:behind]
        shifted = {(a - begin, b - begin): width for (a, b), width in table.items() if begin <= a and b <= behind}
        taken = min(every_cut(part), key=lambda cut: (badness(cut, part, columns, shifted), [-end for at, end in cut]))
        lines += [(begin + a, begin + b) for a, b in taken]
        begin = behind
    return lines


class EveryCut(unittest.TestCase):
    def test_of_texts(self):
        source = random.Random(55)
        differs = 0
        for turn in range(400):
            letters = source.choice(["ab_", "aA_", "ao^", "a_|", "#+*_", "".join(SIGNS) + "abAo"])
            written = "".join(source.choices(letters, k=source.randint(1, 9)))
            w = source.choice([0, EASTERN, tab(3), SPLIT])
            free = "".join(source.choices("..cccm", k=len(written) - 1)) + "m"
            marks = source.choice([own_marks(written, w), free])
            table = all_measures(scalars_of(written), w)
            columns = source.randint(1, 6)
            lines = ragged(written, marks, columns, w)
            self.assertEqual(lines, least_again(marks, columns, table), (written, marks, columns))
            differs += lines != filled(written, marks, columns, w)
        self.assertGreater(differs, 30)

    def test_of_tables(self):
        source = random.Random(56)
        for turn in range(400):
            length = source.randint(1, 7)
            most = source.choice([3, 6, 12])
            table = {(a, b): source.randrange(most) for a, b in rows_of(length)}
            table.update({(a, a + 1): source.randrange(3) for a in range(length)})
            marks = "".join(source.choices("ccccm.", k=length - 1)) + "m"
            columns = source.randint(1, most)
            lines = table_lines(ragged_call, marks, columns, table)
            self.assertEqual(lines, least_again(marks, columns, table), (marks, columns, table))


if __name__ == "__main__":
    unittest.main()
