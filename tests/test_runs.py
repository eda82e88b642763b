import unittest

from tests.helper import WORDS, book_call, chances, chances_call, letters, run

RUNS = """
AL SP AL | .cm
OP SP AL | ..m
q< SP AL | ..m
AL SP q< SP AL | .c..m
NU IS NU PO | ...m
HL HY AL | ..m
SP HY AL | c.m
AL HY AL | .cm
ID CM ID | .cm
RI RI RI RI | .c.m
SP CM AL | c.m
ZW SP SP AL | ..cm
CR LF AL | .mm
B2 SP B2 | ..m
IDW q<W IDW | c.m
IDW q>W IDW | .cm
AL q< IDW | ..m
SP IS NU | c.m
SP IS AL | ..m
AK VI AK AK VF | ....m
AK AK AL | ccm
HY GL | cm
PR OP IS NU CP PO | .....m
AL ZWJ ID | ..m
25CCH CM VF | ..m
"""


class Runs(unittest.TestCase):
    def test_every_row_of_the_table(self):
        for line in RUNS.strip().split("\n"):
            tokens, wanted = line.split(" | ")
            with self.subTest(tokens):
                self.assertEqual(chances(tokens), wanted)

    def test_the_run_of_sa_words(self):
        words = [(1, [0xE01], [4]), (1, [0xE01, 0xE02], [5]), (1, [0xE02, 0xE03], [3]), (1, [0xE03], [4])]
        book = book_call(properties=[(6, 0xE01, 0xE03, 39)], sequences=words)
        answer = run(book, chances_call(WORDS, [0xE01, 0xE02, 0xE03]))
        self.assertEqual(letters(answer[1]), "c.m")


if __name__ == "__main__":
    unittest.main()
