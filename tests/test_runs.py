import unittest

from tests.helper import (
    SPLIT, WORDS, book_call, chances, chances_call, filled, letters, measure, own_marks, ragged, run,
)

RUNS = """
AL SP AL | .cm
OP SP AL | ..m
q< SP AL | ..m
AL SP q< SP AL | .c..m
NU IS NU PO | ...m
HL HY AL | ..m
SP HY AL | c.m
AL HY AL | .cm
ID CM ID | .cm
RI RI RI RI | .c.m
SP CM AL | c.m
ZW SP SP AL | ..cm
CR LF AL | .mm
B2 SP B2 | ..m
IDW q<W IDW | c.m
IDW q>W IDW | .cm
AL q< IDW | ..m
SP IS NU | c.m
SP IS AL | ..m
AK VI AK AK VF | ....m
AK AK AL | ccm
HY GL | cm
PR OP IS NU CP PO | .....m
AL ZWJ ID | ..m
25CCH CM VF | ..m
"""


class Runs(unittest.TestCase):
    def test_every_row_of_the_table(self):
        for line in RUNS.strip().split("\n"):
            tokens, wanted = line.split(" | ")
            with self.subTest(tokens):
                self.assertEqual(chances(tokens), wanted)

    def test_the_run_of_sa_words(self):
        words = [(1, [0xE01], [4]), (1, [0xE01, 0xE02], [5]), (1, [0xE02, 0xE03], [3]), (1, [0xE03], [4])]
        book = book_call(properties=[(6, 0xE01, 0xE03, 39)], sequences=words)
        answer = run(book, chances_call(WORDS, [0xE01, 0xE02, 0xE03]))
        self.assertEqual(letters(answer[1]), "c.m")

    def test_the_run_of_filled_lines(self):
        marks = own_marks("aa_bb_cc")
        self.assertEqual(marks, "..c..c.m")
        self.assertEqual(filled("aa_bb_cc", marks, 5), [(0, 6), (6, 8)])
        self.assertEqual([measure("aa_bb_"), measure("cc")], [5, 2])

    def test_the_run_of_least_raggedness(self):
        text = "aaa_bb_cc_ddddd"
        marks = own_marks(text)
        self.assertEqual(marks, "...c..c..c....m")
        self.assertEqual(filled(text, marks, 6), [(0, 7), (7, 10), (10, 15)])
        self.assertEqual([measure("aaa_bb_"), measure("cc_"), measure("ddddd")], [6, 2, 5])
        self.assertEqual(ragged(text, marks, 6), [(0, 4), (4, 10), (10, 15)])
        self.assertEqual([measure("aaa_"), measure("bb_cc_")], [3, 5])

    def test_the_run_of_split(self):
        marks = own_marks("abcdefgh")
        self.assertEqual(marks, ".......m")
        self.assertEqual(filled("abcdefgh", marks, 3, SPLIT), [(0, 3), (3, 6), (6, 8)])
        self.assertEqual(filled("abcdefgh", marks, 3), [(0, 8)])


if __name__ == "__main__":
    unittest.main()
