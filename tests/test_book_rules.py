"""Rules 20 to 41: each broken by itself, and which of two is told first."""

import itertools
import unittest

from tests.helper import judged

EXTEND = 4
FLAG_15 = 1 << 15
WEIGHT = 1 << 15 | 1 << 5 | 1


class Records:
    """Records in any order, sorted when they are handed over; the culprit is found again by what it is."""

    def __init__(self, properties=(), maps=(), sequences=(), culprit=None):
        self.properties = list(properties)
        self.maps = list(maps)
        self.sequences = list(sequences)
        self.culprit = culprit

    def __add__(self, other):
        return Records(
            self.properties + other.properties, self.maps + other.maps, self.sequences + other.sequences, self.culprit
        )

    def rows(self):
        return {
            "properties": sorted(self.properties), "maps": sorted(self.maps), "sequences": sorted(self.sequences),
        }

    def judged(self):
        return judged(**self.rows())

    def culprit_record(self):
        row, head = self.culprit
        heads = [tuple(record[:2]) for record in self.rows()[row]]
        return heads.index(head)


def extends(first, last, combining=0):
    """Marks: cluster class 4 and, above 0, a combining class."""
    records = [(2, first, last, EXTEND)]
    if combining > 0:
        records.append((0, first, last, combining))
    return records


def never_composed(first, last):
    return (13, first, last, FLAG_15)


def step_chain(base, steps, kind=0, end=()):
    """base + steps takes that many steps to end: each scalar goes to the one below."""
    maps = [(kind, base + place, [base + place - 1]) for place in range(1, steps + 1)]
    if end:
        maps[0] = (kind, base + 1, list(end))
    return maps


def chain_too_long(base):
    return Records([never_composed(base, base + 9)], step_chain(base, 9), culprit=("maps", (0, base + 9)))


def hangul_in_canonical(base):
    return Records([never_composed(base, base)], [(0, base, [0x1100])], culprit=("maps", (0, base)))


def hangul_has_compatibility(base):
    return Records([], [(1, 0x1161, [base])], culprit=("maps", (1, 0x1161)))


def hangul_has_class(base):
    return Records(extends(0x11C2, 0x11C3, 9), culprit=("properties", (0, 0x11C2)))


def out_of_order(base):
    marks = extends(base + 7, base + 7, 230) + extends(base + 9, base + 9, 220)
    maps = [(0, base + 2, [base + 1, base + 9]), (0, base + 1, [base, base + 7])]
    return Records(marks, maps, culprit=("maps", (0, base + 2)))


def both_decompositions(base):
    maps = [(0, base, [base + 1]), (1, base, [base + 1])]
    return Records([never_composed(base, base)], maps, culprit=("maps", (1, base)))


def compatibility_too_deep(base):
    return Records([], step_chain(base, 9, 1), culprit=("maps", (1, base + 9)))


def canonical_too_long_by_k(base):
    maps = [(0, base, [base + 1, base + 2]), (1, base + 1, [base + 3] * 18)]
    return Records(extends(base + 2, base + 2), maps, culprit=("maps", (0, base)))


def single_composed(base):
    return Records([], [(0, base, [base + 1])], culprit=("maps", (0, base)))


def folded_again(base):
    return Records([], [(5, base, [base + 1]), (5, base + 1, [base + 2])], culprit=("maps", (5, base)))


def simply_folded_again(base):
    return Records([], [(6, base, [base + 1]), (6, base + 1, [base + 2])], culprit=("maps", (6, base)))


def mirrored_one_way(base):
    return Records([(13, base, base, 1 << 13)], [(7, base, [base + 1])], culprit=("maps", (7, base)))


def partner_is_no_bracket(base):
    properties = [(9, base, base, 1), (8, base, base, 13)]
    return Records(properties, [(8, base, [base + 1])], culprit=("maps", (8, base)))


def bracket_without_partner(base):
    return Records([(9, base, base, 1)], culprit=("properties", (9, base)))


def digits_missing(base):
    return Records([(11, base, base, 1)], culprit=("properties", (11, base)))


def script_without_name(base):
    return Records([(10, base, base, 3)], culprit=("properties", (10, base)))


def extension_without_name(base):
    return Records([], [(10, base, [1, 3])], culprit=("maps", (10, base)))


def prototype_again(base):
    return Records([], [(9, base, [base + 1]), (9, base + 1, [base + 2])], culprit=("maps", (9, base)))


def start_without_part(base):
    return Records([(13, base, base, 1 << 7)], culprit=("properties", (13, base)))


def class_without_extend(base):
    return Records([(0, base, base, 9)], culprit=("properties", (0, base)))


def cluster_not_as_first(base):
    properties = [never_composed(base, base), (2, base + 1, base + 1, EXTEND)]
    return Records(properties, [(0, base, [base + 1])], culprit=("maps", (0, base)))


def weights_missing(base):
    return Records([], [(11, base, [1 << 15])], culprit=("maps", (11, base)))


def contraction_weights_missing(base):
    return Records([], [], [(0, [base, base], [1 << 15])], culprit=("sequences", (0, [base, base])))


def contraction_begins_with_mark(base):
    key = [base, base + 1]
    return Records(extends(base, base, 9), [], [(0, key, [WEIGHT])], culprit=("sequences", (0, key)))


def weighed_with_step(base):
    maps = [(0, base, [base + 1]), (11, base, [WEIGHT])]
    return Records([never_composed(base, base)], maps, culprit=("maps", (11, base)))


def upper_not_cased(base):
    return Records([], [(2, base, [base + 1])], culprit=("maps", (2, base)))


def lower_not_cased(base):
    return Records([], [(3, base, [base + 1])], culprit=("maps", (3, base)))


def title_not_cased(base):
    return Records([], [(4, base, [base + 1])], culprit=("maps", (4, base)))


def uppercase_not_cased(base):
    return Records([(13, base, base, 1)], culprit=("properties", (13, base)))


def compatibility_has_class(base):
    return Records(extends(base, base, 9), [(1, base, [base + 1])], culprit=("maps", (1, base)))


def folding_unsettled(base):
    """base folds to base + 1, which K takes to base + 2, and so on: the third has a row still."""
    maps = [(5, base, [base + 1]), (1, base + 1, [base + 2])]
    maps += [(5, base + 2, [base + 3]), (1, base + 3, [base + 4]), (5, base + 4, [base + 5])]
    return Records([], maps, culprit=("maps", (5, base)))


def compatibility_unsettled(base):
    """No scalar of map 5 is unsettled here: base + 2's folding is clear of rows once it's done again."""
    maps = [(1, base, [base + 1]), (5, base + 1, [base + 2]), (1, base + 2, [base + 3]), (5, base + 3, [base + 4])]
    return Records([], maps, culprit=("maps", (1, base)))


def canonical_unsettled(base):
    maps = [(0, base, [base + 1]), (5, base + 1, [base + 2]), (1, base + 2, [base + 3]), (5, base + 3, [base + 4])]
    return Records([never_composed(base, base)], maps, culprit=("maps", (0, base)))


def consonant_extends(base):
    return Records([(3, base, base, 2), (2, base, base, EXTEND)], culprit=("properties", (3, base)))


def picture_extends(base):
    properties = [(13, base, base, 1 << 12), (2, base, base, EXTEND)]
    return Records(properties, culprit=("properties", (13, base)))


CLAUSES = [
    (20, chain_too_long),
    (21, hangul_in_canonical),
    (21, hangul_has_compatibility),
    (21, hangul_has_class),
    (22, out_of_order),
    (23, both_decompositions),
    (23, compatibility_too_deep),
    (23, canonical_too_long_by_k),
    (24, single_composed),
    (25, folded_again),
    (25, simply_folded_again),
    (26, mirrored_one_way),
    (27, partner_is_no_bracket),
    (27, bracket_without_partner),
    (28, digits_missing),
    (29, script_without_name),
    (29, extension_without_name),
    (30, prototype_again),
    (31, start_without_part),
    (32, class_without_extend),
    (33, cluster_not_as_first),
    (34, weights_missing),
    (34, contraction_weights_missing),
    (35, contraction_begins_with_mark),
    (36, weighed_with_step),
    (37, upper_not_cased),
    (37, lower_not_cased),
    (37, title_not_cased),
    (37, uppercase_not_cased),
    (38, compatibility_has_class),
    (39, folding_unsettled),
    (39, compatibility_unsettled),
    (39, canonical_unsettled),
    (40, consonant_extends),
    (41, picture_extends),
]


class EachClause(unittest.TestCase):
    def test_broken_by_itself(self):
        for rule, made in CLAUSES:
            with self.subTest(made.__name__):
                records = made(0x3000)
                self.assertEqual(records.judged(), (rule, records.culprit_record()))

    def test_the_earlier_of_two_is_told(self):
        for (rule, made), (later_rule, later) in itertools.combinations(CLAUSES, 2):
            with self.subTest(f"{made.__name__} and {later.__name__}"):
                for base, later_base in ((0x3000, 0x4000), (0x4000, 0x3000)):
                    records = made(base) + later(later_base)
                    self.assertEqual(records.judged(), (rule, records.culprit_record()))

    def test_the_first_record_of_two_is_told(self):
        for rule, made in CLAUSES:
            if made not in (hangul_has_compatibility, hangul_has_class):
                with self.subTest(made.__name__):
                    records = made(0x3000) + made(0x4000)
                    self.assertEqual(records.judged(), (rule, records.culprit_record()))


class Rule(unittest.TestCase):
    def well(self, *args, **kwargs):
        self.assertEqual(Records(*args, **kwargs).judged(), 0)

    def broken(self, rule, head, properties=(), maps=(), sequences=(), row="maps"):
        records = Records(properties, maps, sequences, (row, head))
        self.assertEqual(records.judged(), (rule, records.culprit_record()))


class CanonicalSteps(Rule):
    def test_20_eight_steps(self):
        self.well([never_composed(1, 9)], step_chain(0, 8))
        self.broken(20, (0, 9), [never_composed(1, 9)], step_chain(0, 9))

    def test_20_loops(self):
        self.broken(20, (0, 1), [], [(0, 1, [2]), (0, 2, [1])])
        self.broken(20, (0, 1), [], [(0, 1, [1, 2])])

    def test_20_steps_of_a_syllable_count(self):
        for steps, end, rule in ((7, 0xAC00, 21), (8, 0xAC00, 20), (6, 0xAC01, 21), (7, 0xAC01, 20)):
            culprit = (0, steps) if rule == 20 else (0, 1)
            self.broken(rule, culprit, [], step_chain(0, steps, end=[end]))

    def test_20_a_syllable_goes_by_rule_even_with_a_row(self):
        maps = step_chain(0, 8)
        self.broken(21, (0, 0xAC00), [], maps + [(0, 0xAC00, [8])])
        self.broken(20, (0, 9), [], maps + [(0, 9, [8])])
        # By rule it comes to 1100H, which would have one step too many behind it.
        self.broken(20, (0, 0x1100), [], maps + [(0, 0x1100, [8]), (0, 0xAC00, [65])])
        self.broken(20, (0, 0xAC00), [], step_chain(0, 7) + [(0, 0x1100, [7]), (0, 0xAC00, [65])])

    def test_20_behind_the_first_is_no_step(self):
        self.broken(20, (0, 1), [], [(0, 1, [65, 2]), (0, 2, [66])])
        self.broken(20, (0, 1), [], [(0, 1, [65, 0xAC00])])
        self.broken(20, (0, 2), [], [(0, 1, [2, 66]), (0, 2, [65, 3]), (0, 3, [67])])

    def test_21_what_is_hangul(self):
        inside = (0x1100, 0x1112, 0x1161, 0x1175, 0x11A8, 0x11C2, 0xAC00, 0xD7A3)
        outside = (0x10FF, 0x1113, 0x1160, 0x1176, 0x11A7, 0x11C3, 0xABFF, 0xD7A4)
        for scalar in inside:
            self.broken(21, (0, scalar), [], [(0, scalar, [65])])
            self.broken(21, (0, 65), [], [(0, 65, [scalar])])
            self.broken(21, (0, 65), [], [(0, 65, [scalar, 66])])
            self.broken(21, (1, scalar), [], [(1, scalar, [65])])
            self.broken(21, (0, scalar), extends(scalar, scalar, 9), row="properties")
            if scalar < 0xAC00:
                self.broken(21, (0, 65), [], [(0, 65, [66, scalar])])
            self.well([], [(1, 65, [scalar])])
        for scalar in outside:
            self.well([never_composed(65, 65), never_composed(scalar, scalar)], [(0, 65, [scalar])])
            self.well([never_composed(scalar, scalar)], [(0, scalar, [65])])
            self.well([], [(1, scalar, [65])])
            self.well(extends(scalar, scalar, 9))

    def test_21_a_range_that_meets_hangul(self):
        self.broken(21, (0, 0x10F0), extends(0x10F0, 0x1100, 9), row="properties")
        self.broken(21, (0, 0x1112), extends(0x1112, 0x1150, 9), row="properties")
        self.broken(21, (0, 0x1113), extends(0x1113, 0x11A7, 9), row="properties")
        self.well(extends(0x1113, 0x1160, 9))
        self.well(extends(0x1176, 0x11A7, 9))

    def test_22_order_of_classes(self):
        maps = [(0, 65, [66, 0x302]), (0, 66, [67, 0x300])]
        pairs = ((9, 8, False), (9, 9, True), (9, 10, True), (9, 0, True), (0, 9, True), (254, 1, False))
        for first, second, holds in pairs:
            marks = extends(0x300, 0x300, first) + extends(0x302, 0x302, second)
            if holds:
                self.well(marks, maps)
            else:
                self.broken(22, (0, 65), marks, maps)

    def test_22_first_and_second_of_one_row(self):
        marks = [(0, 0x300, 0x300, 9), (0, 0x301, 0x301, 8), (2, 0x300, 0x301, EXTEND)]
        self.broken(22, (0, 65), marks, [(0, 65, [0x300, 0x301])])
        self.broken(24, (0, 65), marks, [(0, 65, [0x301, 0x300])])


class Compatibility(Rule):
    def test_23_eight_steps_deep(self):
        self.well([], step_chain(0, 8, 1))
        self.broken(23, (1, 9), [], step_chain(0, 9, 1))
        self.broken(23, (1, 1), [], [(1, 1, [2]), (1, 2, [1])])
        self.broken(23, (1, 1), [], [(1, 1, [65, 1])])

    def test_23_depth_is_of_every_scalar(self):
        maps = step_chain(0, 8, 1)
        self.broken(23, (1, 9), [], maps + [(1, 9, [65, 66, 8])])
        self.well([], maps + [(1, 9, [65, 66, 7])])

    def test_23_steps_of_both_maps_and_of_syllables(self):
        flags = [never_composed(20, 30)]
        canonical = step_chain(20, 4)
        self.well(flags, canonical + step_chain(0, 4, 1, end=[24]))
        self.broken(23, (1, 5), flags, canonical + step_chain(0, 5, 1, end=[24]))
        self.well([], step_chain(0, 6, 1, end=[0xAC01]))
        self.broken(23, (1, 7), [], step_chain(0, 7, 1, end=[0xAC01]))
        self.well([], step_chain(0, 7, 1, end=[0xAC00]))
        self.broken(23, (1, 8), [], step_chain(0, 8, 1, end=[0xAC00]))

    def test_23_at_most_18_scalars(self):
        self.well([], [(1, 1, [65] * 18)])
        self.well([], [(1, 1, [2] * 9), (1, 2, [65, 66])])
        self.broken(23, (1, 1), [], [(1, 1, [2] * 9 + [65]), (1, 2, [65, 66])])
        self.broken(23, (1, 1), [], [(1, 1, [0xAC01] * 7)])
        self.well([], [(1, 1, [0xAC01] * 6)])
        self.broken(23, (1, 1), [], [(1, place, [place + 1] * 18) for place in range(1, 8)])

    def test_23_of_canonical_scalars(self):
        marks = extends(0x300, 0x300)
        self.well(marks, [(0, 65, [66, 0x300]), (1, 66, [67] * 17)])
        self.broken(23, (0, 65), marks, [(0, 65, [66, 0x300]), (1, 66, [67] * 18)])
        self.broken(23, (0, 65), marks, [(0, 65, [66, 0x300])] + [(1, 66, [1008])] + [
            (1, 1000 + place, [1000 + place - 1]) for place in range(2, 9)])
        self.well(marks, [(0, 65, [66, 0x300])] + [(1, 66, [1007])] + [
            (1, 1000 + place, [1000 + place - 1]) for place in range(2, 8)])
        self.well(marks, [(0, 65, [66, 0x300]), (1, 0x300, [67] * 17)])
        self.broken(23, (0, 65), marks, [(0, 65, [66, 0x300]), (1, 0x300, [67] * 18)])

    def test_23_clause_by_clause(self):
        # The first clause is broken by a later record than the second, and that by a later one than the third.
        loop = [(1, 1, [2]), (1, 2, [1])]
        both = [(0, 70, [71]), (1, 70, [72])]
        long = [(0, 65, [66, 0x300]), (1, 66, [67] * 18)]
        self.broken(23, (1, 70), [], loop + both + long)
        self.broken(23, (1, 1), [], loop + long)

    def test_38_class_of_the_scalar(self):
        self.broken(38, (1, 0x300), extends(0x300, 0x300, 1), [(1, 0x300, [65])])
        self.well(extends(0x301, 0x301, 1), [(1, 0x300, [0x301])])


class Composition(Rule):
    marks = extends(0x300, 0x301, 9)

    def test_24_a_single_is_never_composed(self):
        self.broken(24, (0, 65), [], [(0, 65, [66])])
        self.well([never_composed(65, 65)], [(0, 65, [66])])
        self.broken(24, (0, 65), [(13, 65, 65, 1 << 14)], [(0, 65, [66])])

    def test_24_classes(self):
        self.well(self.marks, [(0, 65, [66, 0x300])])
        self.broken(24, (0, 0x310), self.marks + extends(0x310, 0x310, 9), [(0, 0x310, [66, 0x300])])
        self.broken(24, (0, 0x310), self.marks + extends(0x310, 0x310), [(0, 0x310, [0x300, 0x301])])
        self.well(self.marks + extends(0x310, 0x310) + [never_composed(0x310, 0x310)], [(0, 0x310, [0x300, 0x301])])

    def test_24_no_other_row_with_the_same_two(self):
        same = [(0, 65, [70, 0x300]), (0, 66, [70, 0x300])]
        self.broken(24, (0, 65), self.marks, same)
        self.well(self.marks + [never_composed(65, 65)], same)
        self.well(self.marks + [never_composed(66, 66)], same)
        self.well(self.marks, [(0, 65, [70, 0x300]), (0, 66, [70, 0x301]), (0, 67, [71, 0x300])])
        self.broken(24, (0, 66), self.marks + [never_composed(65, 65)], same + [(0, 67, [70, 0x300])])


class Foldings(Rule):
    def test_25_map_5(self):
        self.well([], [(5, 65, [97, 98, 99])])
        self.broken(25, (5, 65), [], [(5, 65, [97, 98, 99]), (5, 99, [100])])
        self.broken(25, (5, 65), [], [(5, 65, [97, 65])])

    def test_25_taken_apart_by_canonical_steps(self):
        marks = extends(0x300, 0x300)
        steps = [(0, 97, [98, 0x300]), (0, 98, [99, 0x300])]
        self.well(marks, steps + [(5, 65, [97])])
        self.broken(25, (5, 65), marks, steps + [(5, 65, [97]), (5, 99, [100])])
        self.broken(25, (5, 65), marks, steps + [(5, 65, [97]), (5, 0x300, [100])])
        self.broken(25, (5, 65), marks, steps + [(5, 65, [66, 97]), (5, 99, [100])])
        self.well(marks, steps + [(5, 65, [97]), (5, 98, [100])])

    def test_25_hangul_by_rule(self):
        for jamo in (0x1100, 0x1161, 0x11A8):
            self.broken(25, (5, 65), [], [(5, 65, [0xAC01]), (5, jamo, [100])])
        self.well([], [(5, 65, [0xAC01]), (5, 0xAC00, [100])])
        apart = {
            0xAC00: (0x1100, 0x1161), 0xAC1C: (0x1100, 0x1162), 0xAE4B: (0x1100, 0x1175, 0x11C2), 0xAE4C: (0x1101, 0x1161),
            0xD55C: (0x1112, 0x1161, 0x11AB), 0xD788: (0x1112, 0x1175), 0xD7A3: (0x1112, 0x1175, 0x11C2),
        }
        every = [*range(0x10F0, 0x1120), *range(0x1158, 0x1180), *range(0x11A0, 0x11D0)]
        for syllable, parts in apart.items():
            for jamo in every:
                maps = [(5, 65, [syllable]), (5, jamo, [100])]
                if jamo in parts:
                    self.broken(25, (5, 65), [], maps)
                else:
                    self.well([], maps)

    def test_25_map_6(self):
        self.well([], [(6, 65, [97]), (5, 97, [98])])
        self.broken(25, (6, 65), [], [(6, 65, [97]), (6, 97, [98])])

    def test_39_settles(self):
        self.well([], [(1, 1, [65]), (5, 65, [97])])
        self.broken(39, (5, 2), [], [(5, 2, [3]), (1, 3, [4]), (5, 4, [5]), (1, 5, [6]), (5, 6, [7])])
        self.well([], [(5, 2, [3]), (1, 3, [4]), (5, 4, [5]), (1, 5, [6])])
        self.broken(39, (1, 1), [], [(1, 1, [2]), (5, 2, [3]), (1, 3, [4]), (5, 4, [5])])
        self.well([], [(1, 1, [2]), (5, 2, [3]), (1, 3, [4])])

    def test_39_every_scalar_is_asked(self):
        unsettled = [(5, 2, [3]), (1, 3, [4]), (5, 4, [5])]
        self.well([], unsettled)
        self.broken(39, (1, 1), [], unsettled + [(1, 1, [60, 61, 2])])
        self.broken(39, (5, 1), [], unsettled + [(5, 1, [60, 1000]), (1, 1000, [2])])
        self.broken(39, (1, 6), [], [(1, 6, [7]), (5, 7, [60, 8]), (1, 8, [61, 9]), (5, 9, [62])])

    def test_39_section_by_section(self):
        of_fold = [(5, 2, [3]), (1, 3, [4]), (5, 4, [5]), (1, 5, [6]), (5, 6, [7])]
        of_compatibility = [(1, 1, [2])]
        of_canonical = [(0, 66, [2])]
        flags = [never_composed(66, 66)]
        self.broken(39, (5, 2), flags, of_fold + of_compatibility + of_canonical)
        short = of_fold[:3]
        self.broken(39, (1, 1), flags, short + of_compatibility + of_canonical)
        self.broken(39, (0, 66), flags, short + of_canonical)


class Brackets(Rule):
    flags = [(13, 40, 41, 1 << 13)]
    brackets = [(8, 40, 41, 13), (9, 40, 40, 1), (9, 41, 41, 2)]

    def test_26(self):
        both = [(7, 40, [41]), (7, 41, [40])]
        self.well(self.flags, both)
        self.broken(26, (7, 40), [], both)
        self.broken(26, (7, 41), [(13, 40, 40, 1 << 13)], both)
        self.broken(26, (7, 40), self.flags, both[:1])
        self.broken(26, (7, 40), [(13, 40, 42, 1 << 13)], [(7, 40, [41]), (7, 41, [42]), (7, 42, [41])])

    def test_27_partners(self):
        both = [(8, 40, [41]), (8, 41, [40])]
        self.well(self.brackets, both)
        self.broken(27, (8, 40), self.brackets[:1] + [(9, 40, 41, 1)], both)
        self.broken(27, (8, 40), self.brackets[:1] + [(9, 40, 41, 2)], both)
        self.broken(27, (8, 40), self.brackets[:1] + [(9, 41, 41, 2)], both)
        self.broken(27, (8, 40), self.brackets[:1] + [(9, 40, 40, 1)], both)
        self.broken(27, (8, 40), self.brackets[1:], both)
        self.broken(27, (8, 41), [(8, 40, 40, 13)] + self.brackets[1:], both)
        self.broken(27, (8, 40), [(8, 40, 40, 12), (8, 41, 41, 13)] + self.brackets[1:], both)
        self.broken(27, (8, 40), self.brackets, both[:1])

    def test_27_goes_both_ways(self):
        properties = [(8, 40, 43, 13), (9, 40, 40, 1), (9, 41, 41, 2), (9, 43, 43, 1)]
        maps = [(8, 40, [41]), (8, 41, [43]), (8, 43, [41])]
        self.broken(27, (8, 40), properties, maps)

    def test_27_all_have_a_row(self):
        both = [(8, 40, [41]), (8, 41, [40])]
        properties = self.brackets[:2] + [(9, 41, 42, 2)]
        self.broken(27, (9, 41), properties, both, row="properties")
        self.broken(27, (9, 39), self.brackets[:1] + [(9, 39, 40, 1), (9, 41, 41, 2)], both, row="properties")

    def test_27_what_is_no_scalar_needs_no_row(self):
        properties = [(8, 0xD7FF, 0xE002, 13), (9, 0xD7FF, 0xE000, 1), (9, 0xE001, 0xE002, 2)]
        maps = [(8, 0xD7FF, [0xE001]), (8, 0xE000, [0xE002]), (8, 0xE001, [0xD7FF]), (8, 0xE002, [0xE000])]
        self.assertEqual(Records(properties, maps).judged(), 0)


class Digits(Rule):
    def test_28(self):
        ten = [(11, 48 + digit, 48 + digit, digit + 1) for digit in range(10)]
        self.well(ten)
        self.well(ten + [(11, 58 + digit, 58 + digit, digit + 1) for digit in range(10)])
        for missing in range(10):
            told = 48 if missing > 0 else 49
            self.broken(28, (11, told), ten[:missing] + ten[missing + 1:], row="properties")

    def test_28_a_range_is_one_scalar(self):
        wide = [(11, 58, 59, 1)]
        ten = [(11, 48 + digit, 48 + digit, digit + 1) for digit in range(10)]
        self.broken(28, (11, 58), ten + wide, row="properties")
        # The ten numbers are there, but the last one stands in a range of two.
        self.broken(28, (11, 57), ten[:9] + [(11, 57, 58, 10)], row="properties")

    def test_28_nought_may_lie_nowhere(self):
        self.broken(28, (11, 3), [(11, 3, 3, 10)], row="properties")
        self.broken(28, (11, 0x10FFFF), [(11, 0x10FFFF, 0x10FFFF, 1)], row="properties")


class Scripts(Rule):
    names = ["Zzzz", "Zyyy", "Zinh", "Latn"]

    def test_29_property_10(self):
        for names, most in (([], 2), (self.names[:3], 2), (self.names, 3)):
            self.assertEqual(judged(properties=[(10, 65, 65, most)], names=names), 0)
            self.assertEqual(judged(properties=[(10, 65, 65, most + 1)], names=names), (29, 0))

    def test_29_map_10(self):
        for names, most in (([], 2), (self.names[:3], 2), (self.names, 3)):
            self.assertEqual(judged(maps=[(10, 65, [0, most])], names=names), 0)
            self.assertEqual(judged(maps=[(10, 65, [0, most + 1])], names=names), (29, 0))
            self.assertEqual(judged(maps=[(10, 65, [most + 1, most + 2])], names=names), (29, 0))


class Prototypes(Rule):
    def test_30(self):
        marks = extends(0x300, 0x300)
        steps = [(0, 97, [98, 0x300]), (0, 98, [99, 0x300])]
        self.well(marks, steps + [(9, 65, [66, 97])])
        self.broken(30, (9, 65), marks, steps + [(9, 65, [66, 97]), (9, 99, [100])])
        self.broken(30, (9, 65), marks, steps + [(9, 65, [66, 97]), (9, 0x300, [100])])
        self.well(marks, steps + [(9, 65, [66, 97]), (9, 97, [100]), (9, 98, [100])])
        self.broken(30, (9, 65), marks, [(9, 65, [65, 66])])

    def test_30_not_ignorable(self):
        ignorable = 1 << 11
        self.broken(30, (9, 65), [(13, 67, 67, ignorable)], [(9, 65, [66, 67])])
        self.well([(13, 65, 65, ignorable)], [(9, 65, [66, 67])])
        flags = [(13, 97, 97, ignorable)] + extends(0x300, 0x300)
        self.well(flags, [(0, 97, [98, 0x300]), (9, 65, [97])])
        flags = [(13, 98, 98, ignorable)] + extends(0x300, 0x300)
        self.broken(30, (9, 65), flags, [(0, 97, [98, 0x300]), (9, 65, [97])])


class FlagsAndClusters(Rule):
    def test_31(self):
        self.well([(13, 65, 65, 1 << 7 | 1 << 8)])
        self.well([(13, 65, 65, 1 << 8)])
        self.broken(31, (13, 65), [(13, 65, 65, 1 << 7)], row="properties")
        self.broken(31, (13, 65), [(13, 65, 65, 1 << 16)], row="properties")
        self.broken(31, (13, 65), [(13, 65, 65, 1 << 16 | 1 << 7 | 1 << 8)], row="properties")
        self.well([(13, 65, 65, 1 << 15 | 1 << 17 | 1 << 18 | 1 << 19)])

    def test_32(self):
        combining = [(0, 0x300, 0x302, 9)]
        self.well(combining + [(2, 0x300, 0x302, 4)])
        self.broken(32, (0, 0x300), combining + [(2, 0x301, 0x302, 4)], row="properties")
        self.broken(32, (0, 0x300), combining + [(2, 0x300, 0x301, 4)], row="properties")
        self.broken(32, (0, 0x300), combining + [(2, 0x300, 0x302, 5)], row="properties")
        for conjunct in (1, 2, 3):
            properties = combining + [(2, 0x300, 0x302, 4), (3, 0x302, 0x302, conjunct)]
            if conjunct == 2:
                self.broken(32, (0, 0x300), properties, row="properties")
            else:
                self.well(properties)

    def test_32_what_is_no_scalar_is_not_asked(self):
        self.well([(0, 0xD7FF, 0xE000, 9), (2, 0xD7FF, 0xE000, 4)])

    def test_33_cluster_class_as_the_first(self):
        row = [(0, 65, [66])]
        flags = [never_composed(65, 65)]
        for cluster in range(1, 14):
            self.well(flags + [(2, 65, 66, cluster)], row)
            self.broken(33, (0, 65), flags + [(2, 65, 65, cluster)], row)
            self.broken(33, (0, 65), flags + [(2, 66, 66, cluster)], row)

    def test_33_conjunct_class_as_the_first(self):
        row = [(0, 65, [66])]
        flags = [never_composed(65, 65)]
        for conjunct, cluster in ((1, EXTEND), (2, 0), (3, EXTEND)):
            clusters = [(2, 65, 66, cluster)] if cluster else []
            self.well(flags + clusters + [(3, 65, 66, conjunct)], row)
            self.broken(33, (0, 65), flags + clusters + [(3, 65, 65, conjunct)], row)
            self.broken(33, (0, 65), flags + clusters + [(3, 66, 66, conjunct)], row)

    def test_33_pictographic_as_the_first(self):
        row = [(0, 65, [66])]
        picture = 1 << 12
        self.well([(13, 65, 65, FLAG_15 | picture), (13, 66, 66, picture)], row)
        self.broken(33, (0, 65), [(13, 65, 65, FLAG_15 | picture)], row)
        self.broken(33, (0, 65), [(13, 65, 65, FLAG_15), (13, 66, 66, picture)], row)

    def test_33_behind_the_first(self):
        row = [(0, 65, [66, 0x300])]
        for cluster in range(14):
            properties = [(2, 65, 66, cluster)] if cluster else []
            for second in range(14):
                more = [(2, 0x300, 0x300, second)] if second else []
                holds = (cluster in (0, 4, 8) and second == 4) or (cluster == 10 and second == 10)
                if holds:
                    self.well(properties + more, row)
                else:
                    self.broken(33, (0, 65), properties + more, row)

    def test_33_conjuncts_of_a_row_of_two(self):
        row = [(0, 65, [66, 0x300])]
        for first, first_cluster in ((0, 0), (1, EXTEND), (2, 0), (3, EXTEND)):
            for second in (0, 1, 3):
                properties = [(2, 0x300, 0x300, EXTEND)]
                properties += [(2, 65, 66, first_cluster)] if first_cluster else []
                properties += [(3, 65, 66, first)] if first else []
                properties += [(3, 0x300, 0x300, second)] if second else []
                holds = first == 0 or second == 3 or (first == 1 and second == 1)
                if holds:
                    self.well(properties, row)
                else:
                    self.broken(33, (0, 65), properties, row)
        properties = [(2, 65, 66, EXTEND), (2, 0x300, 0x300, EXTEND), (3, 0x300, 0x300, 2)]
        for first in (1, 2, 3):
            self.broken(33, (0, 65), properties + [(3, 65, 66, first)], row)

    def test_40(self):
        for conjunct, fits in ((1, (4, 5)), (2, (0,)), (3, (4, 5))):
            for cluster in range(14):
                properties = [(3, 65, 67, conjunct)] + ([(2, 65, 67, cluster)] if cluster else [])
                if cluster in fits:
                    self.well(properties)
                else:
                    self.broken(40, (3, 65), properties, row="properties")
        self.broken(40, (3, 65), [(3, 65, 67, 2), (2, 67, 67, 4)], row="properties")
        self.broken(40, (3, 65), [(3, 65, 67, 3), (2, 65, 66, 4)], row="properties")
        self.well([(3, 65, 67, 3), (2, 65, 66, 4), (2, 67, 67, 5)])

    def test_40_cluster_class_is_the_property_of_hangul_too(self):
        self.well([(3, 0x1100, 0x1100, 2)])
        self.broken(40, (3, 0x1100), [(3, 0x1100, 0x1100, 2), (2, 0x1100, 0x1100, 9)], row="properties")

    def test_41(self):
        self.well([(13, 65, 67, 1 << 12)])
        for cluster in range(1, 14):
            self.broken(41, (13, 65), [(13, 65, 67, 1 << 12), (2, 67, 67, cluster)], row="properties")
            self.well([(13, 65, 67, 1 << 11), (2, 67, 67, cluster)])
        self.well([(13, 0xD7FF, 0xE000, 1 << 12), (2, 0xD000, 0xD7FE, 4), (2, 0xE001, 0xE001, 4)])


def element(first, second, third, variable=0):
    return variable << 31 | first << 15 | second << 5 | third


class Orders(Rule):
    def test_34_weights(self):
        whole = element(1, 1, 1)
        for first, second, third in itertools.product((0, 1), repeat=3):
            for scale in (1, -1):
                weights = (first * (0xFFFF if scale < 0 else 1), second * (0x3FF if scale < 0 else 1),
                           third * (0x1F if scale < 0 else 1))
                alone = (first, second, third) == (1, 0, 0)
                fits = (first, second, third) in ((1, 1, 1), (0, 1, 1), (0, 0, 1), (0, 0, 0))
                for row in ([element(*weights)], [element(*weights), whole], [whole, element(*weights)]):
                    if fits or (alone and row[0] == whole):
                        self.well([], [(11, 65, row)])
                        self.well([], [], [(0, [65, 66], row)])
                    else:
                        self.broken(34, (11, 65), [], [(11, 65, row)])
                        self.broken(34, (0, [65, 66]), [], [], [(0, [65, 66], row)], row="sequences")

    def test_34_variable(self):
        for first, second, third in ((1, 1, 1), (0, 1, 1), (0, 0, 1), (0, 0, 0)):
            row = [element(first, second, third, 1)]
            if first:
                self.well([], [(11, 65, row)])
            else:
                self.broken(34, (11, 65), [], [(11, 65, row)])
        self.broken(34, (11, 65), [], [(11, 65, [element(0, 0x3FF, 0x1F, 1)])])
        self.well([], [(11, 65, [element(0x8000, 1, 1, 1)])])

    def test_34_every_bit_of_a_weight_is_its_own(self):
        for bit in range(31):
            fits = bit < 5
            if fits:
                self.well([], [(11, 65, [1 << bit])])
            else:
                self.broken(34, (11, 65), [], [(11, 65, [1 << bit])])
            # Behind another the first weight may stand alone.
            if fits or bit >= 15:
                self.well([], [(11, 65, [WEIGHT, 1 << bit])])
            else:
                self.broken(34, (11, 65), [], [(11, 65, [WEIGHT, 1 << bit])])
        self.broken(34, (11, 65), [], [(11, 65, [1 << 31])])

    def test_34_the_first_alone_is_as_the_one_before_it(self):
        for before, alone in itertools.product((0, 1), repeat=2):
            row = [element(1, 1, 1, before), element(2, 0, 0, alone)]
            if before == alone:
                self.well([], [(11, 65, row)])
                self.well([], [(11, 65, row + [element(3, 0, 0, alone)])])
                self.broken(34, (11, 65), [], [(11, 65, row + [element(3, 0, 0, 1 - alone)])])
            else:
                self.broken(34, (11, 65), [], [(11, 65, row)])
        for before in (element(0, 1, 1), element(0, 0, 1), 0):
            self.well([], [(11, 65, [before, element(1, 0, 0)])])
            self.broken(34, (11, 65), [], [(11, 65, [before, element(1, 0, 0, 1)])])

    def test_35(self):
        marks = [(0, 0x300, 0x300, 9), (0, 0x301, 0x301, 8), (2, 0x300, 0x301, EXTEND)]
        self.well(marks, [], [(0, [65, 0x301, 0x300], [WEIGHT])])
        for key in ([65, 0x300, 0x301], [0x300, 65], [0x301, 0x300], [65, 0xAC00], [0xD7A3, 65]):
            self.broken(35, (0, key), marks, [], [(0, key, [WEIGHT])], row="sequences")
        for key in ([66, 67], [67, 66]):
            steps = [(0, 66, [68, 0x301])]
            self.broken(35, (0, key), marks, steps, [(0, key, [WEIGHT])], row="sequences")
            single = [(0, 66, [68])]
            flagged = marks + [never_composed(66, 66)]
            self.broken(35, (0, key), flagged, single, [(0, key, [WEIGHT])], row="sequences")

    def test_36(self):
        self.broken(36, (11, 0xAC00), [], [(11, 0xAC00, [WEIGHT])])
        self.broken(36, (11, 66), extends(0x300, 0x300), [(0, 66, [68, 0x300]), (11, 66, [WEIGHT])])
        self.broken(36, (11, 66), [never_composed(66, 66)], [(0, 66, [68]), (11, 66, [WEIGHT])])
        self.well([], [(1, 66, [68]), (11, 66, [WEIGHT])])


class Cases(Rule):
    def test_37_maps(self):
        for kind in (2, 3, 4):
            self.well([(13, 65, 65, 1 << 2)], [(kind, 65, [97])])
            self.broken(37, (kind, 65), [(13, 65, 65, 1 << 3)], [(kind, 65, [97])])
        for kind in (12, 13, 14):
            self.well([], [(kind, 65, [97])])

    def test_37_flags(self):
        for bits, holds in ((1, False), (2, False), (3, False), (5, True), (6, True), (7, True), (4, True), (8, True)):
            if holds:
                self.well([(13, 65, 65, bits)])
            else:
                self.broken(37, (13, 65), [(13, 65, 65, bits)], row="properties")


if __name__ == "__main__":
    unittest.main()
