"""Lines filled."""

import random
import unittest

from tests.helper import (
    BREAK_ALL, EASTERN, KEEP_ALL, LINES_BOOK, LOOSE, NORMAL, PLAIN_BOOK, SIGNS, SPLIT, WORDS, all_measures, book_call,
    borders_of, chances_call, fill_call, filled, measure, own_marks, rows_of, run, scalars_of, tab, table_lines, width_call,
)


class Filled(unittest.TestCase):
    def own(self, written, columns, wanted, w=0):
        self.assertEqual(filled(written, own_marks(written, w), columns, w), wanted)

    def test_what_is_answered(self):
        calls = [LINES_BOOK, fill_call(0, 5, scalars_of("aa_bb_cc"), [0, 0, 1, 0, 0, 1, 0, 2])]
        self.assertEqual(run(*calls), [[0], [0, 4, 0, 6, 6, 8]])
        self.assertEqual(run(fill_call(0, 1, [65], [2])), [[0, 2, 0, 1]])

    def test_an_empty_text_has_no_lines(self):
        self.assertEqual(run(fill_call(0, 1, [], [])), [[0, 0]])
        self.assertEqual(run(LINES_BOOK, fill_call(SPLIT, 65535, [], []))[1], [0, 0])

    def test_by_columns(self):
        text = "aa_bb_cc"
        self.own(text, 1, [(0, 3), (3, 6), (6, 8)])
        self.own(text, 2, [(0, 3), (3, 6), (6, 8)])
        self.own(text, 4, [(0, 3), (3, 6), (6, 8)])
        self.own(text, 5, [(0, 6), (6, 8)])
        self.own(text, 7, [(0, 6), (6, 8)])
        self.own(text, 8, [(0, 8)])
        self.own(text, 65535, [(0, 8)])

    def test_spaces_at_a_lines_end_take_no_columns(self):
        self.own("aa_____bb", 2, [(0, 7), (7, 9)])
        self.own("aa_____bb", 8, [(0, 7), (7, 9)])
        self.own("aa_____bb", 9, [(0, 9)])
        self.own("aa_bb___", 5, [(0, 8)])
        self.own("___aa", 2, [(0, 3), (3, 5)])
        self.own("aazbb", 4, [(0, 3), (3, 5)])
        self.own("aaz", 2, [(0, 3)])

    def test_wide_scalars(self):
        self.own("AA_bb", 4, [(0, 3), (3, 5)])
        self.own("AA_bb", 7, [(0, 5)])
        self.own("AA_bb", 6, [(0, 3), (3, 5)])

    def test_a_must_inside_the_text(self):
        self.own("aa|bb", 9, [(0, 3), (3, 5)])
        self.own("aa_bb|cc_dd", 9, [(0, 6), (6, 11)])
        self.own("aa_bb|cc_dd", 2, [(0, 3), (3, 6), (6, 9), (9, 11)])
        self.own("aa<>bb>!c", 9, [(0, 4), (4, 7), (7, 8), (8, 9)])
        self.own("||", 9, [(0, 1), (1, 2)])
        self.assertEqual(filled("abc", "mmm", 9), [(0, 1), (1, 2), (2, 3)])
        self.assertEqual(filled("abcdef", "cmc.cm", 9), [(0, 2), (2, 6)])
        self.assertEqual(filled("abcdef", "c.mc.m", 2), [(0, 1), (1, 3), (3, 4), (4, 6)])

    def test_a_must_is_not_passed_for_something_less_wide_behind_it(self):
        # Up to the must it is too wide; what is behind the must is not looked at.
        self.assertEqual(filled("aao^^", "..m.m", 1), [(0, 3), (3, 5)])
        self.assertEqual(filled("o^^", ".mm", 65535), [(0, 2), (2, 3)])

    def test_marks_that_differ_from_the_texts_own(self):
        text = "aa_bb_cc"
        self.assertEqual(filled(text, ".......m", 5), [(0, 8)])
        self.assertEqual(filled(text, "cccccccm", 5), [(0, 6), (6, 8)])
        self.assertEqual(filled(text, "cccccccm", 1), [(0, 1), (1, 3), (3, 4), (4, 6), (6, 7), (7, 8)])
        self.assertEqual(filled(text, "c......m", 5), [(0, 1), (1, 8)])
        self.assertEqual(filled(text, "...c...m", 5), [(0, 4), (4, 8)])
        self.assertEqual(filled("aa|bb", "....m", 65535), [(0, 5)])
        self.assertEqual(filled("a^b", "c.m", 1), [(0, 1), (1, 3)])

    def test_a_space_in_front_of_a_line_takes_its_columns(self):
        self.assertEqual(filled("aa_bb", ".c..m", 2), [(0, 2), (2, 5)])
        self.assertEqual(filled("aa_b_b", ".c.c.m", 2), [(0, 2), (2, 4), (4, 6)])

    def test_a_first_chance_that_is_too_wide(self):
        self.own("aaaaa_b_c", 3, [(0, 6), (6, 9)])
        self.own("aaaaa_b_c", 3, [(0, 3), (3, 6), (6, 9)], SPLIT)
        self.own("b_aaaaa_c", 3, [(0, 2), (2, 8), (8, 9)])
        self.own("b_aaaaa_c", 3, [(0, 2), (2, 5), (5, 8), (8, 9)], SPLIT)

    def test_behind_a_split_line_chances_are_looked_at_again(self):
        self.own("aaaa_b_c", 3, [(0, 3), (3, 7), (7, 8)], SPLIT)
        self.own("aaaa_b", 3, [(0, 3), (3, 6)], SPLIT)
        self.own("aaaaaaaa", 3, [(0, 3), (3, 6), (6, 8)], SPLIT)
        self.own("AAA", 3, [(0, 1), (1, 2), (2, 3)], SPLIT)
        self.own("AAA", 4, [(0, 2), (2, 3)], SPLIT)

    def test_split_only_where_no_chance_fits(self):
        self.own("a_bbbbbb", 4, [(0, 2), (2, 6), (6, 8)], SPLIT)
        self.own("aa_bb_cc", 5, [(0, 6), (6, 8)], SPLIT)

    def test_split_goes_no_farther_than_the_first_chance(self):
        # Behind the first chance there is a border that fits, but it is none of the row up to that chance.
        self.assertEqual([measure("ao"), measure("ao^^")], [2, 1])
        self.assertEqual(filled("aao^^b", "..c..m", 1, SPLIT), [(0, 1), (1, 2), (2, 6)])
        self.assertEqual(filled("aAo^^b", ".c...m", 2, SPLIT), [(0, 1), (1, 2), (2, 6)])
        self.assertEqual(filled("aaabbb", "..c..m", 2, SPLIT), [(0, 2), (2, 3), (3, 5), (5, 6)])

    def test_a_cluster_that_is_wider_than_the_columns(self):
        self.own("AB", 1, [(0, 1), (1, 2)], SPLIT)
        self.own("aBc", 1, [(0, 1), (1, 2), (2, 3)], SPLIT)
        self.own("A^^b", 1, [(0, 3), (3, 4)], SPLIT)
        self.own("A^^b", 1, [(0, 4)])
        self.assertEqual(filled("A^^", "..m", 1, SPLIT), [(0, 3)])
        # A chance inside a cluster ends the row whose clusters are looked at.
        self.assertEqual(filled("A^^b", "c..m", 1, SPLIT), [(0, 1), (1, 4)])
        self.assertEqual(filled("A^^", ".cm", 1, SPLIT), [(0, 2), (2, 3)])

    def test_split_never_inside_a_cluster(self):
        self.own("a^b^c^d^", 2, [(0, 4), (4, 8)], SPLIT)
        self.own("a^b^c^d^", 3, [(0, 6), (6, 8)], SPLIT)
        self.assertEqual(filled("*****", "....m", 3, SPLIT), [(0, 2), (2, 5)])
        self.assertEqual(filled("****", "...m", 3, SPLIT), [(0, 2), (2, 4)])
        self.assertEqual(filled("a****", "....m", 2, SPLIT), [(0, 1), (1, 3), (3, 5)])

    def test_clusters_of_a_line_begin_with_it(self):
        # The second of the indicators begins a line, so it is joined with the third.
        self.assertEqual(filled("****a", "c...m", 2, SPLIT), [(0, 1), (1, 3), (3, 5)])
        self.assertEqual(filled("a^^b", "c..m", 1, SPLIT), [(0, 1), (1, 4)])
        # A picture behind a joiner that begins a line is not joined with what the line before ends in.
        self.assertEqual(filled("#+#", "..m", 1), [(0, 3)])
        self.assertEqual(filled("#+#", "c.m", 2), [(0, 3)])
        self.assertEqual(filled("b#+#", "cc.m", 1), [(0, 1), (1, 4)])
        self.assertEqual(filled("#+#a", "c..m", 1, SPLIT), [(0, 1), (1, 2), (2, 3), (3, 4)])

    def test_split_at_a_space_leaves_it_away(self):
        marks = "......m"
        self.assertEqual(filled("aa__aaa", marks, 2, SPLIT), [(0, 4), (4, 6), (6, 7)])
        self.assertEqual(filled("__aaa_a", marks, 2, SPLIT), [(0, 2), (2, 4), (4, 6), (6, 7)])

    def test_tab(self):
        self.own("a-b", 4, [(0, 2), (2, 3)], tab(4))
        self.own("a-b", 5, [(0, 3)], tab(4))
        self.own("a-b", 4, [(0, 3)])
        # Columns are counted from the line's own beginning.
        self.own("aaa_a-b", 4, [(0, 4), (4, 6), (6, 7)], tab(4))
        self.own("aaa_a-b", 5, [(0, 4), (4, 7)], tab(4))
        self.own("-", 3, [(0, 1)], tab(8))
        self.own("a-b", 3, [(0, 1), (1, 2), (2, 3)], tab(8) | SPLIT)
        self.own("a-b", 2, [(0, 2), (2, 3)], tab(2))

    def test_a_key_that_is_less_wide_than_a_shorter_row(self):
        self.assertEqual([measure("ao"), measure("ao^"), measure("ao^^")], [2, 2, 1])
        self.assertEqual(filled("ao^^", "...m", 1), [(0, 4)])
        self.assertEqual(filled("ao^^a", "ccccm", 1), [(0, 4), (4, 5)])
        self.assertEqual(filled("aoo^^o^^", "..c.c..m", 2), [(0, 8)])
        # The same with split: the farthest border that fits, not the last before one that doesn't.
        self.assertEqual(filled("aaaao^^", "......m", 3, SPLIT), [(0, 3), (3, 7)])
        self.assertEqual(filled("##+#b", "....m", 3, SPLIT), [(0, 4), (4, 5)])

    def test_chances_that_fit_behind_one_that_does_not(self):
        self.assertEqual(filled("aao^^b", "ccc.cm", 2), [(0, 5), (5, 6)])
        self.assertEqual(filled("aaoo^^b", "c.cc.cm", 3, 0), [(0, 6), (6, 7)])
        # None of the first ones fits, but one behind them does.
        self.assertEqual(filled("oo^^o^", "c....m", 1, 0), [(0, 1), (1, 6)])
        self.assertEqual(filled("Bo^^", "c..m", 1, 0), [(0, 1), (1, 4)])
        self.assertEqual(filled("#+#a", "c.cm", 1, 0), [(0, 3), (3, 4)])
        self.assertEqual(filled("#+#a", "c.cm", 1, SPLIT), [(0, 3), (3, 4)])
        self.assertEqual(filled("##+#a", ".c.cm", 3, SPLIT), [(0, 4), (4, 5)])

    def test_eastern(self):
        self.assertEqual(filled("?_?", ".cm", 3), [(0, 3)])
        self.assertEqual(filled("?_?", ".cm", 3, EASTERN), [(0, 2), (2, 3)])

    def test_other_ways_are_of_no_account(self):
        for w in (NORMAL, LOOSE, BREAK_ALL, KEEP_ALL, WORDS, LOOSE | KEEP_ALL | WORDS):
            self.assertEqual(filled("aa_bb_cc", "..c..c.m", 5, w), [(0, 6), (6, 8)])
            self.assertEqual(filled("aaaa", "...m", 3, w), [(0, 4)])
            self.assertEqual(filled("aaaa", "...m", 3, w | SPLIT), [(0, 3), (3, 4)])

    def test_by_the_book_that_is_there(self):
        call = fill_call(0, 2, [65, 66, 67], [1, 1, 2])
        wide = book_call(properties=[(7, 66, 66, 3)])
        self.assertEqual(run(call, wide, call), [[0, 4, 0, 2, 2, 3], [0], [0, 6, 0, 1, 1, 2, 2, 3]])

    def test_64_scalars(self):
        text = [97] * 64
        self.assertEqual(run(fill_call(0, 1, text, [1] * 63 + [2])), [[0, 128] + [n // 2 for n in range(1, 129)]])
        self.assertEqual(run(fill_call(SPLIT, 1, text, [0] * 63 + [2])), [[0, 128] + [n // 2 for n in range(1, 129)]])
        self.assertEqual(run(fill_call(0, 63, text, [1] * 63 + [2])), [[0, 4, 0, 63, 63, 64]])
        self.assertEqual(run(fill_call(0, 64, text, [1] * 63 + [2])), [[0, 2, 0, 64]])

    def test_the_widest_clusters(self):
        book = book_call(properties=[(2, 0x300, 0x300, 4)], sequences=[(2, [65, 0x300], [65535])])
        text = [65, 0x300, 65, 0x300]
        marks = [0, 1, 0, 2]
        self.assertEqual(run(book, fill_call(0, 65535, text, marks)), [[0], [0, 4, 0, 2, 2, 4]])
        self.assertEqual(run(book, fill_call(0, 65534, text, [0, 0, 0, 2])), [[0], [0, 2, 0, 4]])
        self.assertEqual(run(book, fill_call(SPLIT, 65534, text, [0, 0, 0, 2])), [[0], [0, 4, 0, 2, 2, 4]])

    def test_chances_and_fill_of_one_list(self):
        text = scalars_of("aa_BB|cc_^dd")
        told = run(PLAIN_BOOK, chances_call(0, text))
        again = run(PLAIN_BOOK, fill_call(0, 4, text, told[1][2:]))
        self.assertEqual(again[1], [0, 8, 0, 3, 3, 6, 6, 9, 9, 12])


def filled_again(marks, columns, table, borders_between=None):
    """Lines filled, by a table of measures; with split by what tells the borders from one place to another."""
    lines = []
    begin = 0
    while begin < len(marks):
        must = marks.index("m", begin) + 1
        places = [place for place in range(begin + 1, must + 1) if marks[place - 1] in "cm"]
        fits = [place for place in places if table[begin, place] <= columns]
        if not fits and borders_between:
            places = borders_between(begin, places[0])
            fits = [place for place in places if table[begin, place] <= columns]
        end = fits[-1] if fits else places[0]
        lines.append((begin, end))
        begin = end
    return lines


class Again(unittest.TestCase):
    def test_of_texts(self):
        source = random.Random(44)
        for turn in range(500):
            letters = source.choice(["ab_", "aA_", "ao^", "a_|", "#+*_", "*=^", "".join(SIGNS) + "abAo"])
            written = "".join(source.choices(letters, k=source.randint(1, 10)))
            w = source.choice([0, EASTERN, tab(3)])
            free = "".join(source.choices("....ccm", k=len(written) - 1)) + "m"
            marks = source.choice([own_marks(written, w), free])
            table = all_measures(scalars_of(written), w)
            columns = source.randint(1, 5)

            def between(begin, end):
                return [begin + border for border in borders_of(written[begin:end])]
            with self.subTest(written=written, marks=marks, columns=columns, w=w):
                self.assertEqual(filled(written, marks, columns, w), filled_again(marks, columns, table))
                self.assertEqual(filled(written, marks, columns, w | SPLIT), filled_again(marks, columns, table, between))

    def test_of_tables(self):
        source = random.Random(45)
        for turn in range(300):
            length = source.randint(1, 9)
            most = source.choice([3, 6])
            table = {(a, b): source.randrange(most) for a, b in rows_of(length)}
            table.update({(a, a + 1): source.randrange(3) for a in range(length)})
            marks = "".join(source.choices("cccc..m", k=length - 1)) + "m"
            columns = source.randint(1, most)
            wanted = filled_again(marks, columns, table)
            # Each row is one cluster here, so that split has no border to go to but the first chance.
            self.assertEqual(table_lines(fill_call, marks, columns, table), wanted)
            self.assertEqual(table_lines(fill_call, marks, columns, table, SPLIT), wanted)

    def test_borders_of_the_pattern(self):
        # Each cluster by itself is as wide as in the row, without tab and the keys that lessen.
        source = random.Random(46)
        for turn in range(300):
            written = "".join(source.choices(list(SIGNS) + ["a", "A"], k=source.randint(1, 12)))
            borders = [0] + borders_of(written)
            parts = [written[begin:end] for begin, end in zip(borders, borders[1:])]
            told = run(PLAIN_BOOK, *[width_call(0, scalars_of(part)) for part in [written] + parts])
            self.assertEqual(told[1][0], sum(number for (number,) in told[2:]), written)


if __name__ == "__main__":
    unittest.main()
