"""The chances once more, each rule as two patterns over a text of units, and all cuts of words tried."""

import itertools
import random
import re
import unittest

from tests.helper import (
    BREAK_ALL, CLASS_NAMES, CLASS_PROPERTIES, EASTERN, KEEP_ALL, LOOSE, NORMAL, STRICT, TOKENS, WORDS, book_call,
    chances_call, letters, run,
)

EVERY_WAY = [
    strictness | more | words | eastern
    for strictness in (STRICT, NORMAL, LOOSE)
    for more in (0, BREAK_ALL, KEEP_ALL)
    for words in (0, WORDS)
    for eastern in (0, EASTERN)
]

SA_WORDS = {
    ("SA",): 40, ("SA", "SA"): 50, ("SA", "SAn"): 7, ("SA", "SAn", "SA"): 60, ("SAn",): 9, ("SAe", "SA"): 30,
    ("SA", "SAe"): 30, ("SAe", "SA", "SAe"): 70, ("SA", "ZWJ"): 3, ("SA", "SA", "SA", "SA"): 100,
}
BOOK = book_call(
    properties=CLASS_PROPERTIES,
    sequences=sorted((1, [TOKENS[token] for token in key], [cost]) for key, cost in SA_WORDS.items()),
)

# Tokens that are no class's name: first class and what is asked of them.
ODD = {
    "q<": ("QU", "i"), "q>": ("QU", "f"), "q<W": ("QU", "wi"), "q>W": ("QU", "wf"), "SAn": ("SA", "m"),
    "SAc": ("SA", "m"), "SAe": ("SA", ""), "open": ("ID", "o"), "picture": ("ID", ""), "unassigned": ("ID", ""),
    "CMi": ("CM", "i"), "IDf": ("ID", "f"), "25CCH": ("AL", "r"), "2010H": ("BA", "s"),
}


def first_class(token):
    if token in ODD:
        return ODD[token]
    if token in CLASS_NAMES:
        return token, ""
    return token[:-1], "w"


def scalar_class(token, w):
    name, signs = first_class(token)
    table = {"AI": "ID" if w & EASTERN else "AL", "SG": "AL", "XX": "AL", "SA": "CM" if "m" in signs else "AL",
             "CJ": "NS" if w & 3 == STRICT else "ID"}
    name = table.get(name, name)
    if w & 3 == LOOSE:
        name = {"NS": "ID", "IN": "ID"}.get(name, name)
    if w & BREAK_ALL:
        name = {"AL": "ID", "HL": "ID", "NU": "ID"}.get(name, name)
    if w & KEEP_ALL:
        name = dict.fromkeys(("ID", "H2", "H3", "JL", "JV", "JT"), "AL").get(name, name)
    return name


def parted(tokens, w):
    """Units as (their written form, their tokens)."""
    units = []
    for token in tokens:
        name = scalar_class(token, w)
        if name in ("CM", "ZWJ") and units and units[-1][0] not in ("BK", "CR", "LF", "NL", "SP", "ZW"):
            units[-1][2].append(token)
            units[-1][3] = name == "ZWJ"
        else:
            signs = first_class(token)[1].replace("m", "")
            if name in ("BK", "CR", "LF", "NL"):
                signs = signs.replace("w", "").replace("r", "")
            if name in ("CM", "ZWJ"):
                signs = "".join(sign for sign in signs if sign in "wif")
            taken = "AL" if name in ("CM", "ZWJ") else name
            sign_t = "t" if first_class(token)[0] == "SA" else ""
            units.append([taken, signs + sign_t, [token], name == "ZWJ"])
    return [(f"<{name} {signs}{'j' if joined else ''}>", own) for name, signs, own, joined in units]


def U(names="", has="", lacks=""):
    """A pattern of one unit: of these classes (any, where none is named), with these signs and without those."""
    classes = "(?:" + "|".join(names.split()) + ")" if names else r"\w+"
    looks = "".join(f"(?=[^>]*{sign})" for sign in has) + "".join(f"(?![^>]*{sign})" for sign in lacks)
    return f"(?:<{classes} {looks}[^>]*>)"


ENDS = "BK CR LF NL"
KERNEL = f"(?:{U('AK AS')}|{U(has='r')})"
SPACES = U("SP") + "*"
DIGITS = U("NU") + U("SY IS") + "*"
KOREAN = "JL JV JT H2 H3"
PATTERNS = [
    (U("BK"), "", "m"), (U("CR"), U("LF"), "."), (U("CR LF NL"), "", "m"),
    ("", U(ENDS + " SP ZW"), "."),
    (U("ZW") + SPACES, "", "c"),
    (U(has="j"), "", "."),
    (U("WJ"), "", "."), ("", U("WJ"), "."),
    (U("GL"), "", "."), ("(?!" + U("SP BA HY") + ")" + U(), U("GL"), "."),
    ("", U("CL CP EX SY"), "."),
    (U("OP") + SPACES, "", "."),
    ("(?:^|" + U(ENDS + " OP QU GL SP ZW") + ")" + U("QU", has="i") + SPACES, "", "."),
    ("", U("QU", has="f") + r"(?:\Z|" + U("SP GL WJ CL QU CP EX IS SY ZW " + ENDS) + ")", "."),
    (U("SP"), U("IS") + U("NU"), "c"), ("", U("IS"), "."),
    (U("CL CP") + SPACES, U("NS"), "."), (U("B2") + SPACES, U("B2"), "."),
    (U("SP"), "", "c"),
    ("", U("QU", lacks="i"), "."), (U("QU", lacks="f"), "", "."),
    (U(lacks="w"), U("QU"), "."), ("", U("QU") + r"(?:\Z|" + U(lacks="w") + ")", "."),
    (U("QU"), U(lacks="w"), "."), ("(?:^|" + U(lacks="w") + ")" + U("QU"), "", "."),
    (U("CB"), "", "c"), ("", U("CB"), "c"),
    ("(?:^|" + U(ENDS + " SP ZW CB GL") + ")(?:" + U("HY") + "|" + U(has="s") + ")", U("AL"), "."),
    ("", U("BA HY NS"), "."), (U("BB"), "", "."),
    (U("HL") + "(?:" + U("HY") + "|" + U("BA", lacks="w") + ")", "(?!" + U("HL") + ")", "."),
    (U("SY"), U("HL"), "."),
    ("", U("IN"), "."),
    (U("AL HL"), U("NU"), "."), (U("NU"), U("AL HL"), "."),
    (U("PR"), U("ID EB EM"), "."), (U("ID EB EM"), U("PO"), "."),
    (U("PR PO"), U("AL HL"), "."), (U("AL HL"), U("PR PO"), "."),
    (DIGITS + U("CL CP") + "?", U("PO PR"), "."), (U("PO PR"), U("OP") + U("IS") + "?" + U("NU"), "."),
    (U("PO PR HY IS"), U("NU"), "."), (DIGITS, U("NU"), "."),
    (U("JL"), U("JL JV H2 H3"), "."), (U("JV H2"), U("JV JT"), "."), (U("JT H3"), U("JT"), "."),
    (U(KOREAN), U("PO"), "."), (U("PR"), U(KOREAN), "."),
    (U("AL HL", has="t"), U("AL HL", has="t"), "t"), (U("AL HL"), U("AL HL"), "."),
    (U("AP"), KERNEL, "."), (KERNEL, U("VF VI"), "."), (KERNEL + U("VI"), f"(?:{U('AK')}|{U(has='r')})", "."),
    (KERNEL, KERNEL + U("VF"), "."),
    (U("IS"), U("AL HL"), "."),
    (U("AL HL NU"), U("OP", lacks="w"), "."), (U("CP", lacks="w"), U("AL HL NU"), "."),
    ("(?:^|(?!" + U("RI") + ")" + U() + ")(?:" + U("RI") * 2 + ")*" + U("RI"), U("RI"), "."),
    ("(?:" + U("EB") + "|" + U(has="o") + ")", U("EM"), "."),
    ("", "", "c"),
]
COMPILED = [(re.compile(before + r"\Z"), re.compile(behind), said) for before, behind, said in PATTERNS]


def least_cuts(row):
    """The places behind which a row of units (as tuples of tokens) is cut, all cuts tried."""
    best = None
    for bits in itertools.product((False, True), repeat=len(row) - 1):
        ends = [place for place, bit in enumerate(bits) if bit] + [len(row) - 1]
        cost = 0
        first = 0
        lengths = []
        for end in ends:
            piece = tuple(token for unit in row[first:end + 1] for token in unit)
            price = SA_WORDS.get(piece, 65536 if end == first else None)
            cost = None if cost is None or price is None else cost + price
            lengths.append(first - end)
            first = end + 1
        if cost is not None and (best is None or (cost, lengths) < best[:2]):
            best = (cost, lengths, ends)
    return best[2]


def all_word_cuts(units):
    cuts = set()
    place = 0
    while place < len(units):
        behind = place
        while behind < len(units) and re.match(U("AL", has="t"), units[behind][0]):
            behind += 1
        if behind > place:
            cuts |= {place + end for end in least_cuts([tuple(own) for written, own in units[place:behind]])}
        place = max(behind, place + 1)
    return cuts


def said_again(tokens, w):
    units = parted(tokens, w)
    cuts = all_word_cuts(units) if w & WORDS and not w & BREAK_ALL else set()
    told = ""
    for place in range(1, len(units)):
        before = "".join(written for written, own in units[:place])
        behind = "".join(written for written, own in units[place:])
        for left, right, said in COMPILED:
            if left.search(before) and right.match(behind):
                break
        if said == "t":
            said = "c" if place - 1 in cuts else "."
        told += "." * (len(units[place - 1][1]) - 1) + said
    return told + "." * (len(units[-1][1]) - 1) + "m"


class Again(unittest.TestCase):
    def compare(self, texts, w):
        for first in range(0, len(texts), 30):
            some = texts[first:first + 30]
            told = run(BOOK, *[chances_call(w, [TOKENS[token] for token in tokens]) for tokens in some])
            self.assertEqual(told[0], [0])
            for tokens, answer in zip(some, told[1:]):
                self.assertEqual(letters(answer), said_again(tokens, w), (tokens, w))

    def test_every_pair(self):
        tokens = [token for token in TOKENS if token in ODD or token in CLASS_NAMES]
        self.compare([list(pair) for pair in itertools.product(tokens, repeat=2)], STRICT)

    def test_texts_of_all_classes_under_all_ways(self):
        source = random.Random(14)
        tokens = sorted(TOKENS)
        for w in EVERY_WAY:
            self.compare([source.choices(tokens, k=source.randint(1, 9)) for count in range(60)], w)

    def test_texts_of_classes_that_have_much_to_do_with_each_other(self):
        source = random.Random(16)
        groups = [
            "q< q> QU q<W q>W SP OP IDW ID CMW CM BK GL", "NU IS SY CL CP PO PR OP HY AL SP", "AK AS AP VI VF 25CCH CM AL ID",
            "HL HY BA BAW 2010H AL SP CB GL ZW CM", "JL JV JT H2 H3 PR PO ID CM", "RI CM ZWJ ID SP RI RI",
            "EB EM open picture unassigned CM ZWJ ID", "ZW SP WJ GL ZWJ CM AL", "CR LF NL BK SP AL ZW CM",
            "IS NU SP AL HL SY", "B2 SP CL NS CP CJ IN EX", "OP OPW CP CPW AL NU HL",
        ]
        for group in groups:
            tokens = group.split()
            for w in (STRICT, NORMAL, LOOSE):
                self.compare([source.choices(tokens, k=source.randint(2, 8)) for count in range(90)], w)

    def test_words(self):
        source = random.Random(9)
        tokens = "SA SA SA SAe SAn SAc ZWJ CM SP AL".split()
        for w in EVERY_WAY:
            self.compare([source.choices(tokens, k=source.randint(2, 9)) for count in range(30)], w)


if __name__ == "__main__":
    unittest.main()
