"""Ways, classes, units, and the rules of chances one by one."""

import unittest

from tests.helper import (
    BREAK_ALL, CLASS_BOOK, CLASS_NAMES, EASTERN, KEEP_ALL, LOOSE, NORMAL, SPLIT, STRICT, TOKENS, WORDS, book_call,
    chances, chances_call, letters, run, tab, text_of,
)


class WaysAndRefusals(unittest.TestCase):
    def answer(self, w, text):
        return run(chances_call(w, text))[0]

    def test_ways(self):
        wishes = [NORMAL, LOOSE, BREAK_ALL, KEEP_ALL, WORDS, EASTERN, SPLIT, tab(1), tab(63), 1 << 8, 1 << 13]
        wishes += [LOOSE | BREAK_ALL | WORDS | EASTERN | SPLIT | tab(63), NORMAL | KEEP_ALL | WORDS | EASTERN]
        for w in [STRICT] + wishes:
            self.assertEqual(self.answer(w, [65]), [0, 1, 2], w)
            self.assertEqual(run([3, w, 1, 65]), [[1]], w)

    def test_no_ways(self):
        for w in [1 << bit for bit in range(14, 32)] + [1 << 7, 3, 3 | 16, 12, 12 | 1, 4294967295]:
            self.assertEqual(self.answer(w, [65]), [-1], w)
            self.assertEqual(self.answer(w, []), [-1], w)
            self.assertEqual(run([3, w, 1, 65]), [[-1]], w)

    def test_no_scalars(self):
        for number in (0xD800, 0xDFFF, 0x110000, 4294967295):
            for text in ([number], [65, number], [number, 65]):
                self.assertEqual(self.answer(0, text), [-1])
                self.assertEqual(run([3, 0, len(text)] + text), [[-1]])
        for number in (0, 0xD7FF, 0xE000, 0x10FFFF):
            self.assertEqual(self.answer(0, [number]), [0, 1, 2])
            self.assertEqual(run([3, 0, 1, number]), [[1]])

    def test_too_long_is_told_first(self):
        self.assertEqual(self.answer(0, [65] * 64), [0, 64] + [0] * 63 + [2])
        self.assertEqual(run([3, 0, 64] + [65] * 64), [[64]])
        for w, text in ((0, [65] * 65), (3, [65] * 65), (0, [0xD800] * 65), (1 << 14, [0x110000] * 100)):
            self.assertEqual(self.answer(w, text), [-6])
            self.assertEqual(run([3, w, len(text)] + text), [[-6]])

    def test_the_empty_text(self):
        for w in (STRICT, LOOSE, BREAK_ALL, KEEP_ALL, WORDS, EASTERN, SPLIT, tab(8)):
            self.assertEqual(self.answer(w, []), [0, 0])
            self.assertEqual(run([3, w, 0]), [[0]])

    def test_without_a_book_all_are_letters(self):
        self.assertEqual(self.answer(0, [65, 32, 10, 0xAC00]), [0, 4, 0, 0, 0, 2])
        self.assertEqual(self.answer(BREAK_ALL, [65, 32]), [0, 2, 1, 2])

    def test_split_and_tab_are_of_no_account(self):
        tokens = "AL SP AL HY ID NU"
        self.assertEqual(chances(tokens), chances(tokens, SPLIT | tab(4)))


def texts_around(token):
    """Texts in which a scalar shows by its chances which class it has."""
    others = ["AL", "ID", "NS", "NU", "IN", "HL", "CM", "PO", "PR", "SP", "CL", "OP", "H2", "JL", "JV", "JT", "HY", "EX"]
    texts = [[token, other] for other in others] + [[other, token] for other in others]
    texts += [[other, token, third] for other in ("SP", "CL", "ID", "AL", "HY") for third in ("AL", "NU", "ID")]
    texts += [["AL", "HY", token], ["CL", "SP", token]]
    return [text_of(" ".join(text)) for text in texts]


def behaviour(token, w):
    told = run(CLASS_BOOK, *[chances_call(w, text) for text in texts_around(token)])
    return [letters(answer) for answer in told[1:]]


class Classes(unittest.TestCase):
    def shows(self, token, like, w):
        self.assertEqual(behaviour(token, w), behaviour(like, w), (token, like, w))

    def test_classes_differ(self):
        kinds = ["AL", "ID", "NS", "CM", "IN", "NU"]
        told = [behaviour(kind, STRICT) for kind in kinds]
        for place, kind in enumerate(kinds):
            self.assertEqual(told.count(told[place]), 1, kind)

    def test_step_1(self):
        for strictness in (STRICT, NORMAL):
            self.shows("AI", "AL", strictness)
            self.shows("AI", "ID", strictness | EASTERN)
            for w in (strictness, strictness | EASTERN):
                self.shows("SG", "AL", w)
                self.shows("XX", "AL", w)
                self.shows("SA", "AL", w)
                self.shows("SAe", "AL", w)
                self.shows("SAn", "CM", w)
                self.shows("SAc", "CM", w)
        self.shows("CJ", "NS", STRICT)
        self.shows("CJ", "ID", NORMAL)
        self.shows("CJ", "NS", STRICT | EASTERN)
        self.shows("NS", "NS", NORMAL)
        self.assertNotEqual(behaviour("NS", NORMAL), behaviour("ID", NORMAL))

    def test_step_2_loose(self):
        for token in ("CJ", "NS", "IN"):
            self.assertEqual(chances("AL " + token, LOOSE), "cm")
            self.assertEqual(chances("CL " + token, LOOSE), "cm")
            self.assertEqual(chances("PR " + token, LOOSE), ".m")
        self.assertEqual(chances("AL IN", NORMAL), ".m")
        self.assertEqual(chances("AL NS", NORMAL), ".m")
        self.assertEqual(chances("AL AI", LOOSE), ".m")
        self.assertEqual(chances("AL AI", LOOSE | EASTERN), "cm")
        self.assertEqual(chances("AL EX", LOOSE), ".m")

    def test_step_3_break_all(self):
        for token in ("AL", "HL", "NU", "SA", "AI", "SG", "XX", "ID"):
            for other in ("AL", "HL", "NU", "ID"):
                self.assertEqual(chances(f"{token} {other}", BREAK_ALL), "cm", (token, other))
                self.assertEqual(chances(f"{token} {other}", BREAK_ALL | WORDS), "cm", (token, other))
            self.assertEqual(chances(f"PR {token}", BREAK_ALL), ".m")
            self.assertEqual(chances(f"{token} OP", BREAK_ALL), "cm")
        self.assertEqual(chances("SAn AL", BREAK_ALL), "cm")
        self.assertEqual(chances("AL SAn", BREAK_ALL), ".m")
        self.assertEqual(chances("JL JV", BREAK_ALL), ".m")
        self.assertEqual(chances("AL NS", BREAK_ALL), ".m")
        self.assertEqual(chances("AL NS", BREAK_ALL | LOOSE), "cm")

    def test_step_3_a_mark_that_begins_a_unit_stays_a_letter(self):
        self.assertEqual(chances("SP CM OP", BREAK_ALL), "c.m")
        self.assertEqual(chances("SP AL OP", BREAK_ALL), "ccm")

    def test_step_3_keep_all(self):
        for token in ("ID", "H2", "H3", "JL", "JV", "JT", "AL"):
            for other in ("ID", "H2", "H3", "JL", "JV", "JT", "AL", "HL"):
                self.assertEqual(chances(f"{token} {other}", KEEP_ALL), ".m")
                self.assertEqual(chances(f"{other} {token}", KEEP_ALL), ".m")
        self.assertEqual(chances("ID CJ", KEEP_ALL), ".m")
        self.assertEqual(chances("CJ ID", KEEP_ALL), "cm")
        self.assertEqual(chances("CJ ID", KEEP_ALL | NORMAL), ".m")
        self.assertEqual(chances("NS ID", KEEP_ALL), "cm")
        self.assertEqual(chances("NS ID", KEEP_ALL | NORMAL), "cm")
        self.assertEqual(chances("NS IN ID", KEEP_ALL | LOOSE), "..m")
        self.assertEqual(chances("AI ID", KEEP_ALL | EASTERN), ".m")
        self.assertEqual(chances("AL EB", KEEP_ALL), "cm")
        self.assertEqual(chances("AL B2", KEEP_ALL), "cm")

    def test_ring_and_east_are_not_of_those_that_end_lines(self):
        for kind in (9, 15, 30, 31):
            # A ring of these classes would be a kernel: xx kernel, x VI, y AK.
            book = book_call(properties=[(6, 44, 44, 44), (6, 45, 45, 2), (6, 0x25CC, 0x25CC, kind)])
            self.assertEqual(letters(run(book, chances_call(0, [0x25CC, 44, 45]))[1]), "mcm")
            # East of these would let a closing quote be broken behind.
            book = book_call(properties=[(1, 64, 64, 17), (6, 64, 64, 37), (6, 65, 65, kind), (6, 66, 66, 24), (7, 64, 66, 3)])
            self.assertEqual(letters(run(book, chances_call(0, [65, 64, 66]))[1]), "m.m")
        book = book_call(properties=[(6, 44, 44, 44), (6, 45, 45, 2), (6, 0x25CC, 0x25CC, 24)])
        self.assertEqual(letters(run(book, chances_call(0, [0x25CC, 44, 45]))[1]), "..m")

    def test_east_is_h_w_and_f(self):
        for width in range(6):
            properties = [(1, 64, 64, 17), (6, 64, 64, 37), (6, 65, 66, 24)]
            if width > 0:
                properties.append((7, 65, 66, width))
            told = letters(run(book_call(properties=properties), chances_call(0, [65, 64, 66]))[1])
            self.assertEqual(told, ".cm" if width in (2, 3, 4) else "..m")
            # Eastern is of ambiguous widths, not of what is east.
            told = letters(run(book_call(properties=properties), chances_call(EASTERN, [65, 64, 66]))[1])
            self.assertEqual(told, ".cm" if width in (2, 3, 4) else "..m")


class Units(unittest.TestCase):
    def test_marks_go_with_what_is_before(self):
        self.assertEqual(chances("ID CM CM ZWJ CM ID"), "....cm")
        self.assertEqual(chances("ID CM SAn SAc ID"), "...cm")
        self.assertEqual(chances("OP CM SP CM ID"), "...cm")
        self.assertEqual(chances("GL CM ID"), "..m")

    def test_none_goes_with_what_ends_a_line_or_is_a_space(self):
        for token, told in (("BK", "mcm"), ("CR", "mcm"), ("LF", "mcm"), ("NL", "mcm"), ("SP", "ccm"), ("ZW", "ccm")):
            self.assertEqual(chances(token + " CM ID"), told)
        self.assertEqual(chances("SP CM CM AL"), "c..m")
        self.assertEqual(chances("SP ZWJ AL"), "c.m")

    def test_a_unit_that_begins_with_a_mark_is_a_letter(self):
        self.assertEqual(chances("CM ID"), "cm")
        self.assertEqual(chances("CM AL"), ".m")
        self.assertEqual(chances("CM CM NU"), "..m")
        self.assertEqual(chances("CM OP"), ".m")
        self.assertEqual(chances("ZWJ CM ID"), ".cm")

    def test_ends_in_a_joiner(self):
        self.assertEqual(chances("ID ZWJ ID"), "..m")
        self.assertEqual(chances("ID CM ZWJ ID"), "...m")
        self.assertEqual(chances("ID ZWJ CM ID"), "..cm")
        self.assertEqual(chances("ZWJ ID"), ".m")
        self.assertEqual(chances("CM ID"), "cm")

    def test_a_mark_is_no_ring_not_soft_not_open(self):
        ring = book_call(properties=[(6, 44, 44, 43), (6, 0x25CC, 0x25CC, 13)])
        self.assertEqual(letters(run(ring, chances_call(0, [0x25CC, 44]))[1]), "cm")
        ring = book_call(properties=[(6, 43, 43, 13), (6, 44, 44, 43), (6, 0x25CC, 0x25CC, 47)])
        self.assertEqual(letters(run(ring, chances_call(0, [0x25CC, 43, 44]))[1]), ".cm")
        soft = book_call(properties=[(6, 44, 44, 22), (6, 45, 45, 39), (6, 0x2010, 0x2010, 39)], sequences=[
            (1, [45], [1]), (1, [0x2010], [1])])
        self.assertEqual(letters(run(soft, chances_call(WORDS, [0x2010, 45]))[1]), ".m")
        soft = book_call(properties=[(1, 0x2010, 0x2010, 6), (6, 44, 44, 22), (6, 45, 45, 39), (6, 0x2010, 0x2010, 39)],
                         sequences=[(1, [45], [1]), (1, [0x2010], [1])])
        self.assertEqual(letters(run(soft, chances_call(WORDS, [0x2010, 45]))[1]), "cm")
        for kind, told in ((13, "cm"), (24, ".m"), (47, ".m")):
            picture = book_call(properties=[(6, 44, 44, 17), (6, 45, 45, kind), (13, 45, 45, 1 << 12)])
            self.assertEqual(letters(run(picture, chances_call(0, [45, 44]))[1]), told)
        picture = book_call(properties=[(6, 43, 43, 13), (6, 44, 44, 17), (6, 45, 45, 47), (13, 45, 45, 1 << 12)])
        self.assertEqual(letters(run(picture, chances_call(0, [45, 43, 44]))[1]), ".cm")

    def test_a_mark_is_east_by_its_first_scalar(self):
        self.assertEqual(chances("SP CMW q>W IDW"), "c.cm")
        self.assertEqual(chances("SP CM q>W IDW"), "c..m")

    def test_marks_are_asked_of_the_first_scalar_alone(self):
        self.assertEqual(chances("QU CMi IDW"), "..m")
        self.assertEqual(chances("IDW CM q>W CM IDW CM"), "...c.m")


RULES = {
    1: """
        BK AL | mm
        BK BK | mm
        BK LF | mm
        CR LF | .m
        CR CR | mm
        CR AL | mm
        LF CR | mm
        LF AL | mm
        NL LF | mm
        NL SP | mm
        BK SP | mm
        BK CL | mm
        CR CM LF | m.m
        """,
    2: """
        AL BK | .m
        AL CR | .m
        AL LF | .m
        AL NL | .m
        AL SP | .m
        AL ZW | .m
        ZW ZW | .m
        ZW SP | .m
        CB SP | .m
        SP CR LF | ..m
        """,
    3: """
        ZW AL | cm
        ZW CL | cm
        ZW SP CL | .cm
        ZW WJ | cm
        ZW GL | cm
        ZW CM WJ | c.m
        ZW SP CM CL | .c.m
        ZW SP ZWJ AL | .c.m
        AL SP CL | ..m
        """,
    4: """
        ID ZWJ ID | ..m
        CB ZWJ CB | ..m
        SP ZWJ ID | c.m
        ZW ZWJ AL | c.m
        ID ZWJ SP ID | ..cm
        """,
    5: """
        WJ ID | .m
        ID WJ | .m
        SP WJ | .m
        CB WJ | .m
        WJ CB | .m
        WJ SP ID | .cm
        SP CM WJ | c.m
        """,
    6: """
        GL ID | .m
        GL CB | .m
        ID GL | .m
        CB GL | .m
        SP GL | cm
        BA GL | cm
        HY GL | cm
        EX GL | .m
        HY CM GL | .cm
        GL SP GL | .cm
        """,
    7: """
        ID CL | .m
        ID CP | .m
        ID EX | .m
        ID SY | .m
        SP CL | .m
        SP CP | .m
        SP EX | .m
        SP SY | .m
        CB CL | .m
        SP IS | .m
        """,
    8: """
        OP ID | .m
        OP SP ID | ..m
        OP SP SP CB | ...m
        OP CM SP ID | ...m
        CL SP ID | .cm
        OP AL SP ID | ..cm
        """,
    9: """
        q< ID | .m
        q< SP ID | ..m
        q< SP SP CB | ...m
        BK q< SP ID | m..m
        CR q< SP ID | m..m
        LF q< SP ID | m..m
        NL q< SP ID | m..m
        OP q< SP ID | ...m
        QU q< SP ID | ...m
        q> q< SP ID | ...m
        GL q< SP ID | ...m
        SP q< SP ID | c..m
        ZW q< SP ID | c..m
        AL q< SP ID | ..cm
        CL q< SP ID | ..cm
        SP CM q< SP ID | c..cm
        q> SP ID | .cm
        QU SP ID | .cm
        q<W SP ID | ..m
        WJ q< SP ID | ..cm
        CMi SP ID | .cm
        """,
    10: """
        SP q> | .m
        SP q> SP | ..m
        SP q> GL | ..m
        SP q> WJ | ..m
        SP q> CL | ..m
        SP q> QU | ..m
        SP q> CP | ..m
        SP q> EX | ..m
        SP q> IS | ..m
        SP q> SY | ..m
        SP q> BK | ..m
        SP q> CR | ..m
        SP q> LF | ..m
        SP q> NL | ..m
        SP q> ZW | ..m
        SP q> AL | c.m
        SP q> ID | c.m
        SP q> OP | c.m
        SP QU | cm
        SP q< | cm
        CB q> | .m
        SP IDf | cm
        SP IDf SP | c.m
        """,
    11: """
        SP IS NU | c.m
        SP IS | .m
        SP IS AL | ..m
        SP IS SP NU | ..cm
        CB IS NU | ..m
        ID IS NU | ..m
        SP IS CM NU | c..m
        CB IS | .m
        """,
    12: """
        CL NS | .m
        CP NS | .m
        CL SP NS | ..m
        CP SP SP NS | ...m
        CL SP ID | .cm
        EX SP NS | .cm
        ID SP NS | .cm
        B2 B2 | .m
        B2 SP B2 | ..m
        B2 SP ID | .cm
        ID SP B2 | .cm
        """,
    13: """
        SP AL | cm
        SP SP AL | .cm
        AL SP HY | .cm
        SP QU | cm
        SP NS | cm
        SP BA | cm
        SP IN | cm
        SP SP | .m
        """,
    14: """
        ID QU | .m
        QU ID | .m
        IDW QUW IDW | ..m
        IDW q>W IDW | .cm
        IDW q<W IDW | c.m
        CB QU CB | ..m
        """,
    15: """
        IDW q< IDW | c.m
        ID q< IDW | ..m
        IDW q< ID | ..m
        IDW q< | .m
        IDW q> IDW | .cm
        ID q> IDW | ..m
        IDW q> ID | ..m
        q> IDW | .m
        q> ID | .m
        CB q< CB | ..m
        CBW q<W CBW | c.m
        """,
    16: """
        CB AL | cm
        AL CB | cm
        CB CB | cm
        CB NS | cm
        CB BA | cm
        BB CB | cm
        HY CB | cm
        CB IN | cm
        """,
    17: """
        HY AL | .m
        2010H AL | .m
        BA AL | cm
        BK HY AL | m.m
        CR HY AL | m.m
        LF HY AL | m.m
        NL HY AL | m.m
        SP HY AL | c.m
        ZW HY AL | c.m
        CB HY AL | c.m
        GL HY AL | ..m
        SP 2010H AL | c.m
        AL HY AL | .cm
        AL 2010H AL | .cm
        HY HL | cm
        HY ID | cm
        SP BA AL | ccm
        """,
    18: """
        ID BA | .m
        ID HY | .m
        ID NS | .m
        BB ID | .m
        BB BB | .m
        ID BB | cm
        HL HY AL | ..m
        HL HY ID | ..m
        HL HY HL | .cm
        HL BA AL | ..m
        HL BA HL | .cm
        HL BAW AL | .cm
        HL HYW AL | ..m
        AL HY ID | .cm
        AL BA AL | .cm
        HL CM HY CM ID | ....m
        SY HL | .m
        SY AL | cm
        SY ID | cm
        """,
    19: """
        ID IN | .m
        AL IN | .m
        EX IN | .m
        IN IN | .m
        IN ID | cm
        """,
    20: """
        AL NU | .m
        HL NU | .m
        NU AL | .m
        NU HL | .m
        ID NU | cm
        NU ID | cm
        PR ID | .m
        PR EB | .m
        PR EM | .m
        ID PO | .m
        EB PO | .m
        EM PO | .m
        PO ID | cm
        PO EB | cm
        ID PR | cm
        EB PR | cm
        EM PR | cm
        PR AL | .m
        PR HL | .m
        PO AL | .m
        PO HL | .m
        AL PR | .m
        HL PR | .m
        AL PO | .m
        HL PO | .m
        PR PO | cm
        """,
    21: """
        NU PO | .m
        NU PR | .m
        NU SY PO | ..m
        NU IS SY IS PR | ....m
        NU CL PO | ..m
        NU CP PR | ..m
        NU IS CL PO | ...m
        NU SY CP PR | ...m
        NU CL CL PO | ..cm
        CL PO | cm
        ID CL PO | .cm
        SY PO | cm
        ID IS PO | .cm
        NU EX PO | .cm
        NU CL SY PO | ..cm
        PO OP NU | ..m
        PR OP NU | ..m
        PO OP IS NU | ...m
        PR OP IS NU | ...m
        PR OP IS IS NU | c...m
        PR OP SY NU | c.cm
        PR OP | cm
        PR OP IS | c.m
        PR OP AL | c.m
        PO NU | .m
        PR NU | .m
        HY NU | .m
        IS NU | .m
        AL HY NU | ..m
        NU NU | .m
        NU SY NU | ..m
        NU IS SY NU | ...m
        SY NU | cm
        ID SY NU | .cm
        CL NU | cm
        NU CL NU | .cm
        NU CM SY CM PO | ....m
        """,
    22: """
        JL JL | .m
        JL JV | .m
        JL H2 | .m
        JL H3 | .m
        JL JT | cm
        JV JV | .m
        JV JT | .m
        JV H2 | cm
        H2 JV | .m
        H2 JT | .m
        H2 H2 | cm
        JT JT | .m
        JT JV | cm
        JT JL | cm
        H3 JT | .m
        H3 JV | cm
        H3 H3 | cm
        JL PO | .m
        JV PO | .m
        JT PO | .m
        H2 PO | .m
        H3 PO | .m
        PR JL | .m
        PR JV | .m
        PR JT | .m
        PR H2 | .m
        PR H3 | .m
        PO H2 | cm
        H2 PR | cm
        """,
    23: """
        AL AL | .m
        AL HL | .m
        HL AL | .m
        HL HL | .m
        AL ID | cm
        SA SA | .m
        """,
    24: """
        AP AK | .m
        AP AS | .m
        AP 25CCH | .m
        AP AL | cm
        AP AP | cm
        AK VF | .m
        AK VI | .m
        AS VF | .m
        AS VI | .m
        25CCH VF | .m
        25CCH VI | .m
        AL VF | cm
        AK VI AK | ..m
        AK VI 25CCH | ..m
        AS VI AK | ..m
        25CCH VI AK | ..m
        AK VI AS | .cm
        AL VI AK | ccm
        VI AK | cm
        AK AK VF | ..m
        AK AS VF | ..m
        AS 25CCH VF | ..m
        25CCH AS VF | ..m
        AK AK VI | c.m
        AK AK | cm
        AL AK VF | c.m
        AK AL VF | ccm
        AK CM VI CM AK | ....m
        """,
    25: """
        IS AL | .m
        IS HL | .m
        IS ID | cm
        """,
    26: """
        AL OP | .m
        HL OP | .m
        NU OP | .m
        AL OPW | cm
        NU OPW | cm
        ID OP | cm
        CP AL | .m
        CP HL | .m
        CP NU | .m
        CPW AL | cm
        CPW NU | cm
        CL AL | cm
        CP ID | cm
        """,
    27: """
        RI RI | .m
        RI RI RI | .cm
        RI RI RI RI RI | .c.cm
        ID RI RI RI | c.cm
        RI CM RI RI | ..cm
        RI ID RI RI | cc.m
        RI ID | cm
        ID RI | cm
        RI ZWJ RI RI | ..cm
        """,
    28: """
        EB EM | .m
        open EM | .m
        picture EM | cm
        unassigned EM | cm
        ID EM | cm
        EB ID | cm
        open ID | cm
        EM EM | cm
        open CM EM | ..m
        """,
    29: """
        ID ID | cm
        AL ID | cm
        BA BB | cm
        CL OP | cm
        EX AL | cm
        VF VI | cm
        AS AP | cm
        """,
}


class RulesInOrder(unittest.TestCase):
    pass


def rule_test(lines):
    def test(self):
        for line in lines.strip().split("\n"):
            tokens, wanted = [part.strip() for part in line.split(" | ")]
            with self.subTest(tokens):
                self.assertEqual(chances(tokens), wanted)
    return test


for rule_number, rule_lines in RULES.items():
    setattr(RulesInOrder, f"test_rule_{rule_number}", rule_test(rule_lines))


class EveryClass(unittest.TestCase):
    def test_a_single_scalar_is_a_must(self):
        for token in TOKENS:
            self.assertEqual(chances(token), "m")

    def test_behind_the_musts(self):
        for name in CLASS_NAMES:
            for end in ("BK", "LF", "NL"):
                self.assertEqual(chances(f"{end} {name}"), "mm")
            self.assertEqual(chances(f"CR {name}"), ".m" if name == "LF" else "mm")


if __name__ == "__main__":
    unittest.main()
