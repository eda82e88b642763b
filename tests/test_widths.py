"""Clusters and widths."""

import random
import re
import unittest

from tests.helper import EASTERN, book_call, run, tab, width_call

# A book for clusters: a scalar of each cluster class that isn't Hangul's, of width 1 each but where told.
OTHER, CR, LF, CONTROL, EXTEND, ZWJ, RI, PREPEND, SPACING = range(0x1000, 0x1009)
PICTURE = 0x1010
CONSONANT, LINKER, CONJUNCT_EXTEND, CONJUNCT_ZWJ = 0x1020, 0x1021, 0x1022, 0x1023
LEADING, VOWEL, TRAILING, LV, LVT = 0x1100, 0x1161, 0x11A8, 0xAC00, 0xAC01
# Those that the book says are Hangul's classes without being Hangul.
OWN_L, OWN_V, OWN_T, OWN_LV, OWN_LVT = range(0x1030, 0x1035)

CLUSTERS = [(2, CR + place, CR + place, place + 1) for place in range(8)]
CLUSTERS += [(2, LINKER, CONJUNCT_EXTEND, 4), (2, CONJUNCT_ZWJ, CONJUNCT_ZWJ, 5)]
CLUSTERS += [(2, OWN_L + place, OWN_L + place, place + 9) for place in range(5)]
CONJUNCTS = [(3, CONSONANT, CONSONANT, 2), (3, LINKER, LINKER, 1), (3, CONJUNCT_EXTEND, CONJUNCT_ZWJ, 3)]
# Two regional indicators are wider than each by itself, so that a width shows which ones are joined.
BOOK = book_call(properties=CLUSTERS + CONJUNCTS + [(13, PICTURE, PICTURE, 1 << 12)], sequences=[(2, [RI, RI], [3])])

ALL = [
    OTHER, CR, LF, CONTROL, EXTEND, ZWJ, RI, PREPEND, SPACING, PICTURE, CONSONANT, LINKER, CONJUNCT_EXTEND,
    CONJUNCT_ZWJ, LEADING, VOWEL, TRAILING, LV, LVT, OWN_L, OWN_V, OWN_T, OWN_LV, OWN_LVT,
]
L_KINDS, V_KINDS, T_KINDS = (LEADING, OWN_L), (VOWEL, OWN_V), (TRAILING, OWN_T)
LV_KINDS, LVT_KINDS = (LV, OWN_LV), (LVT, OWN_LVT)


def width(text, w=0, book=BOOK):
    told = run(book, width_call(w, text))
    assert told[0] == [0], told[0]
    (number,) = told[1]
    return number


class Clusters(unittest.TestCase):
    """Each cluster here is as wide as 1, but one of two regional indicators: so a width counts clusters."""

    def joined(self, *text):
        self.assertEqual(width(list(text)), 1, [hex(scalar) for scalar in text])

    def broken(self, *text):
        self.assertEqual(width(list(text)), 2, [hex(scalar) for scalar in text])

    def test_1_cr_lf(self):
        self.joined(CR, LF)
        self.broken(LF, CR)
        self.broken(CR, CR)
        self.broken(LF, LF)

    def test_2_and_3_controls(self):
        for control in (CR, LF, CONTROL):
            for other in ALL:
                if (control, other) != (CR, LF):
                    self.broken(control, other)
                if (other, control) != (CR, LF):
                    self.broken(other, control)

    def test_4_to_6_syllables(self):
        kinds = {"L": L_KINDS, "V": V_KINDS, "T": T_KINDS, "LV": LV_KINDS, "LVT": LVT_KINDS}
        joins = ("L L", "L V", "L LV", "L LVT", "LV V", "LV T", "V V", "V T", "LVT T", "T T")
        for first, firsts in kinds.items():
            for second, seconds in kinds.items():
                for a in firsts:
                    for b in seconds:
                        if f"{first} {second}" in joins:
                            self.joined(a, b)
                        else:
                            self.broken(a, b)
                        self.broken(OTHER, b)
                        self.broken(a, OTHER)

    def test_hangul_goes_by_rule(self):
        # Rule by rule, whatever the book says of these scalars.
        hangul = [0x1100, 0x1112, 0x1161, 0x1175, 0x11A8, 0x11C2, 0xAC00, 0xAC01, 0xAC1B, 0xAC1C, 0xD788, 0xD7A3]
        other = [0x10FF, 0x1113, 0x1160, 0x1176, 0x11A7, 0x11C3, 0xABFF, 0xD7A4]
        wrong = book_call(properties=[
            (2, 0x1100, 0x1112, 3), (2, 0x1161, 0x1175, 1), (2, 0x11A8, 0x11C2, 7), (2, 0xAC00, 0xD7A3, 4)])
        leadings, vowels, trailings = hangul[:2], hangul[2:4], hangul[4:6]
        for book in (book_call(), wrong):
            for a in leadings:
                for b in leadings + vowels + hangul[6:]:
                    self.assertEqual(width([a, b], 0, book), 1)
                for b in trailings:
                    self.assertEqual(width([a, b], 0, book), 2)
            for a in (0xAC00, 0xAC1C, 0xD788) + tuple(vowels):
                self.assertEqual(width([a, 0x1161], 0, book), 1)
                self.assertEqual(width([a, 0x11C2], 0, book), 1)
            for a in (0xAC01, 0xAC1B, 0xD7A3) + tuple(trailings):
                self.assertEqual(width([a, 0x1161], 0, book), 2)
                self.assertEqual(width([a, 0x11A8], 0, book), 1)
            for scalar in other:
                for near in hangul:
                    self.assertEqual(width([scalar, near], 0, book), 2)
                    self.assertEqual(width([near, scalar], 0, book), 2)
        self.assertEqual(width([0x1100, 0x1161, 0x11A8, 0x1100, 0x1161], 0, book_call()), 2)

    def test_hangul_has_no_conjunct_and_is_no_picture(self):
        properties = [(2, LINKER, LINKER, 4), (3, LINKER, LINKER, 1), (3, 0x1161, 0x1161, 2), (3, 0xAC00, 0xAC00, 2)]
        book = book_call(properties=sorted(properties))
        self.assertEqual(width([0x1161, LINKER, 0xAC00], 0, book), 2)
        self.assertEqual(width([0x1161, 0xAC00], 0, book), 2)
        book = book_call(properties=[(2, ZWJ, ZWJ, 5), (13, 0xAC00, 0xAC01, 1 << 12)])
        self.assertEqual(width([0xAC00, ZWJ, 0xAC00], 0, book), 2)
        self.assertEqual(width([0xAC01, ZWJ, 0xAC01], 0, book), 2)

    def test_7_and_8_marks(self):
        for mark in (EXTEND, ZWJ, SPACING, LINKER, CONJUNCT_EXTEND, CONJUNCT_ZWJ):
            for before in ALL:
                if before not in (CR, LF, CONTROL):
                    self.joined(before, mark)
        self.joined(OTHER, EXTEND, ZWJ, SPACING, EXTEND)

    def test_9_prepend(self):
        for behind in ALL:
            if behind not in (CR, LF, CONTROL):
                self.joined(PREPEND, behind)
        self.broken(OTHER, PREPEND)
        self.joined(PREPEND, PREPEND, OTHER)

    def test_10_conjuncts(self):
        self.joined(CONSONANT, LINKER, CONSONANT)
        self.joined(CONSONANT, CONJUNCT_EXTEND, LINKER, CONSONANT)
        self.joined(CONSONANT, LINKER, CONJUNCT_ZWJ, CONSONANT)
        self.joined(CONSONANT, LINKER, LINKER, CONSONANT, LINKER, CONSONANT)
        self.broken(CONSONANT, CONSONANT)
        self.broken(CONSONANT, CONJUNCT_EXTEND, CONSONANT)
        self.broken(LINKER, CONSONANT)
        self.broken(OTHER, LINKER, CONSONANT)
        self.broken(CONSONANT, LINKER, EXTEND, CONSONANT)
        self.broken(CONSONANT, EXTEND, LINKER, CONSONANT)
        self.broken(CONSONANT, LINKER, OTHER)
        self.assertEqual(width([CONSONANT, LINKER, OTHER, CONSONANT]), 3)

    def test_11_pictures(self):
        self.joined(PICTURE, ZWJ, PICTURE)
        self.joined(PICTURE, EXTEND, EXTEND, ZWJ, PICTURE)
        self.joined(PICTURE, ZWJ, PICTURE, EXTEND, ZWJ, PICTURE)
        self.broken(PICTURE, PICTURE)
        self.broken(PICTURE, EXTEND, PICTURE)
        self.broken(PICTURE, ZWJ, OTHER)
        self.broken(OTHER, ZWJ, PICTURE)
        self.broken(ZWJ, PICTURE)
        self.broken(EXTEND, ZWJ, PICTURE)
        self.broken(PICTURE, ZWJ, ZWJ, PICTURE)
        self.broken(PICTURE, SPACING, ZWJ, PICTURE)
        self.broken(PICTURE, ZWJ, EXTEND, PICTURE)

    def test_12_indicators(self):
        for count in range(1, 8):
            self.assertEqual(width([RI] * count), 3 * (count // 2) + count % 2)
            self.assertEqual(width([OTHER] + [RI] * count), 1 + 3 * (count // 2) + count % 2)
        self.broken(RI, EXTEND, RI)
        self.assertEqual(width([RI, RI, EXTEND, RI, RI]), 2 + 3)
        self.assertEqual(width([RI, EXTEND, RI, RI]), 1 + 3)

    def test_13_break(self):
        for a in (OTHER, PICTURE, CONSONANT, RI, SPACING, EXTEND, ZWJ):
            self.broken(a, OTHER)
            self.broken(OTHER, OTHER)


class ScalarWidths(unittest.TestCase):
    def width(self, properties, text, w=0, sequences=()):
        return width(text, w, book_call(properties=properties, sequences=sequences))

    def test_general_classes(self):
        for general in range(29):
            properties = [(1, 65, 65, general)] if general else []
            wanted = 0 if general in (6, 8, 26, 27) else 1
            self.assertEqual(self.width(properties, [65]), wanted, general)
            self.assertEqual(self.width(properties + [(7, 65, 65, 3)], [65]), 2 * wanted, general)

    def test_widths(self):
        for kind in range(6):
            properties = [(7, 65, 65, kind)] if kind else []
            self.assertEqual(self.width(properties, [65]), 2 if kind in (3, 4) else 1)
            self.assertEqual(self.width(properties, [65], EASTERN), 2 if kind in (1, 3, 4) else 1)

    def test_ignorable(self):
        self.assertEqual(self.width([(7, 65, 65, 3), (13, 65, 65, 1 << 11)], [65]), 0)
        self.assertEqual(self.width([(7, 65, 65, 3), (13, 65, 65, 1 << 10)], [65]), 2)
        self.assertEqual(self.width([(7, 65, 65, 3), (13, 65, 65, 1 << 12)], [65]), 2)

    def test_a_cluster_is_as_wide_as_its_widest(self):
        properties = [(1, 0x300, 0x300, 6), (2, 0x300, 0x301, 4), (7, 66, 66, 3), (7, 0x301, 0x301, 4)]
        self.assertEqual(self.width(properties, [65, 0x300]), 1)
        self.assertEqual(self.width(properties, [65, 0x301]), 2)
        self.assertEqual(self.width(properties, [66, 0x300]), 2)
        self.assertEqual(self.width(properties, [0x300]), 0)
        self.assertEqual(self.width(properties, [0x300, 0x300]), 0)
        self.assertEqual(self.width(properties, [65, 0x300, 66, 0x301, 65]), 4)

    def test_two_indicators(self):
        narrow = [(2, 65, 65, 6)]
        ignorable = narrow + [(13, 65, 65, 1 << 11)]
        self.assertEqual(self.width(narrow, [65]), 1)
        self.assertEqual(self.width(narrow, [65, 65]), 2)
        self.assertEqual(self.width(ignorable, [65]), 0)
        self.assertEqual(self.width(ignorable, [65, 65]), 2)
        prepended = [(2, 64, 64, 7), (2, 65, 65, 6), (2, 66, 66, 4)]
        self.assertEqual(self.width(prepended, [64, 65, 65, 66]), 2)
        self.assertEqual(self.width(prepended, [65, 66]), 1)
        self.assertEqual(self.width(prepended, [66, 65, 65]), 3)

    def test_whole_clusters(self):
        properties = [(2, 65, 65, 6), (2, 0x300, 0x301, 4)]
        sequences = [(2, [65, 65], [7]), (2, [66, 0x300], [0]), (2, [66, 0x300, 0x301], [65535]), (2, [67, 68], [9])]
        self.assertEqual(self.width(properties, [65, 65], 0, sequences), 7)
        self.assertEqual(self.width(properties, [66, 0x300], 0, sequences), 0)
        self.assertEqual(self.width(properties, [66, 0x300, 0x301], 0, sequences), 65535)
        self.assertEqual(self.width(properties, [66, 0x301], 0, sequences), 1)
        # What is no whole cluster is not taken as one.
        self.assertEqual(self.width(properties, [67, 68], 0, sequences), 2)
        self.assertEqual(self.width(properties, [65, 65, 0x300], 0, sequences), 2)
        # Words are keys of their own.
        self.assertEqual(self.width(properties, [66, 0x300], 0, [(1, [66, 0x300], [5])]), 1)

    def test_tab(self):
        for size in range(1, 64):
            for column in (0, 1, 2, 7, 8, 9, 31, 60):
                wanted = (column // size + 1) * size
                self.assertEqual(width([65] * column + [9], tab(size), book_call()), wanted)
        self.assertEqual(width([9, 9, 65, 9], tab(8), book_call()), 24)
        self.assertEqual(width([65, 9], tab(0), book_call()), 2)
        self.assertEqual(self.width([(1, 9, 9, 26)], [65, 9, 9]), 1)
        self.assertEqual(self.width([(1, 9, 9, 26)], [65, 9, 9], tab(1)), 3)
        self.assertEqual(self.width([(1, 9, 9, 26)], [65, 9, 9], tab(4)), 8)
        self.assertEqual(self.width([(7, 65, 65, 3)], [65, 9, 65], tab(4)), 6)

    def test_tab_is_a_cluster_by_itself(self):
        properties = [(2, 0x300, 0x300, 4)]
        self.assertEqual(self.width(properties, [65, 9, 0x300], tab(8)), 2)
        self.assertEqual(self.width(properties, [65, 9, 0x300], tab(8), [(2, [9, 0x300], [5])]), 6)
        controls = [(1, 9, 9, 26), (2, 9, 9, 3), (2, 0x300, 0x300, 4)]
        self.assertEqual(self.width(controls, [65, 9, 0x300], tab(8)), 9)

    def test_tab_goes_by_the_column_where_it_stands(self):
        properties = [(1, 0x300, 0x300, 6), (2, 0x300, 0x300, 4), (7, 66, 66, 3)]
        self.assertEqual(self.width(properties, [66, 0x300, 66, 9, 65], tab(3)), 7)


# The clusters once more, as one pattern over a letter for each scalar of ALL.
SIGNS = dict(zip(ALL, "orncezipsbklxyLVTgtLVTgt"))
POST = "[ezslxy]*"
SYLLABLE = "(?:L*(?:V+|gV*|t)T*|L+|T+)"
PICTURES = "b(?:[elx]*[zy]b)*"
CONJUNCT = "k(?:[lxy]*l[lxy]*k)*"
CLUSTER = re.compile(f"rn|[rnc]|p*(?:ii|{SYLLABLE}|{PICTURES}|{CONJUNCT}|[oi]|(?=[ezslxy])){POST}|p+")


def clusters_again(text):
    written = "".join(SIGNS[scalar] for scalar in text)
    found = CLUSTER.findall(written)
    assert "".join(found) == written and "" not in found
    return found


def some_texts(seed, count):
    source = random.Random(seed)
    for turn in range(count):
        kinds = source.sample(ALL, source.randint(1, len(ALL)))
        yield source.choices(kinds, k=source.randint(1, 12))


class Again(unittest.TestCase):
    def test_clusters(self):
        for text in some_texts(29, 4000):
            clusters = clusters_again(text)
            widths = [3 if cluster == "ii" else 2 if "ii" in cluster else 1 for cluster in clusters]
            self.assertEqual(width(text), sum(widths), clusters)

    def test_f8_width_of_joined_rows(self):
        wholes = [(2, [OTHER, EXTEND], [5]), (2, [RI, RI], [9]), (2, [PICTURE, ZWJ, PICTURE], [0])]
        properties = CLUSTERS + CONJUNCTS + [(7, OTHER, OTHER, 3), (13, PICTURE, PICTURE, 1 << 12)]
        book = book_call(properties=properties, sequences=wholes)
        seen = 0
        for text in some_texts(8, 1500):
            border = 0
            for cluster in clusters_again(text)[:-1]:
                border += len(cluster)
                if SIGNS[text[border]] not in "ezilxy":
                    told = run(book, *[width_call(0, row) for row in (text[:border], text[border:], text)])
                    self.assertEqual(told[1][0] + told[2][0], told[3][0], (text, border))
                    seen += 1
        self.assertGreater(seen, 1000)


if __name__ == "__main__":
    unittest.main()
