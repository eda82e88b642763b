"""Rules 4 to 17: what a book's rows keep record by record."""

import unittest

from tests.helper import book_call, flat, judged, judged_raw, map_record, raw_book_call, row, run, sequence_record

VALUE_MOST = (254, 28, 13, 3, 18, 14, 47, 5, 22, 2, 255, 10, 8191, 1048575)
ROW_MOST = (2, 18, 3, 3, 3, 3, 1, 1, 1, 18, 32, 18, 1, 1, 1)
NO_SCALARS = (0xD800, 0xDFFF, 0x110000, 4294967295)
SCALAR_EDGES = (0, 0xD7FF, 0xE000, 0x10FFFF)


class Properties(unittest.TestCase):
    def test_well(self):
        self.assertEqual(judged(), 0)
        self.assertEqual(judged(properties=[(6, 0, 0x10FFFF, 47)]), 0)
        for scalar in SCALAR_EDGES:
            self.assertEqual(judged(properties=[(6, scalar, scalar, 1)]), 0)

    def test_6_too_few_numbers_before_all_else(self):
        self.assertEqual(judged_raw(properties=[6, 65, 65]), (6, 0))
        self.assertEqual(judged_raw(properties=[99]), (6, 0))
        self.assertEqual(judged_raw(properties=[99, 0xD800, 0]), (6, 0))
        self.assertEqual(judged_raw(properties=[6, 65, 65, 1, 6]), (6, 1))

    def test_4_number_is_one_and_not_below_the_one_before(self):
        self.assertEqual(judged(properties=[(14, 65, 65, 1)]), (4, 0))
        self.assertEqual(judged(properties=[(4294967295, 65, 65, 1)]), (4, 0))
        self.assertEqual(judged(properties=[(6, 65, 65, 1), (5, 70, 70, 1)]), (4, 1))
        self.assertEqual(judged(properties=[(5, 65, 65, 1), (6, 70, 70, 1), (6, 80, 80, 1), (12, 70, 70, 1)]), 0)

    def test_7_first_and_last(self):
        for number in NO_SCALARS:
            self.assertEqual(judged(properties=[(6, number, 0x10FFFF, 1)]), (7, 0))
            self.assertEqual(judged(properties=[(6, 0, number, 1)]), (7, 0))
        self.assertEqual(judged(properties=[(6, 66, 65, 1)]), (7, 0))
        self.assertEqual(judged(properties=[(6, 65, 70, 1), (6, 70, 80, 2)]), (7, 1))
        self.assertEqual(judged(properties=[(6, 65, 70, 1), (6, 60, 80, 2)]), (7, 1))
        self.assertEqual(judged(properties=[(6, 65, 70, 1), (6, 71, 80, 2)]), 0)
        self.assertEqual(judged(properties=[(6, 65, 70, 1), (7, 65, 70, 2)]), 0)

    def test_8_value(self):
        for kind, most in enumerate(VALUE_MOST):
            for wrong in (0, most + 1, 4294967295):
                self.assertEqual(judged(properties=[(kind, 65, 65, wrong)]), (8, 0))
            for right in (1, most):
                self.assertNotEqual(judged(properties=[(kind, 65, 65, right)]), (8, 0))

    def test_9_ranges_that_touch_differ(self):
        self.assertEqual(judged(properties=[(6, 65, 70, 1), (6, 71, 80, 1)]), (9, 1))
        self.assertEqual(judged(properties=[(6, 65, 70, 1), (6, 72, 80, 1)]), 0)
        self.assertEqual(judged(properties=[(6, 0xD000, 0xD7FF, 1), (6, 0xE000, 0xE000, 1)]), (9, 1))
        self.assertEqual(judged(properties=[(6, 0xD000, 0xD7FF, 1), (6, 0xE000, 0xE000, 2)]), 0)
        self.assertEqual(judged(properties=[(6, 0xD000, 0xD7FF, 1), (6, 0xE001, 0xE001, 1)]), 0)
        self.assertEqual(judged(properties=[(6, 0xD000, 0xD7FE, 1), (6, 0xE000, 0xE001, 1)]), 0)
        self.assertEqual(judged(properties=[(6, 65, 70, 1), (7, 71, 80, 1)]), 0)

    def test_order_of_a_records_rules(self):
        self.assertEqual(judged(properties=[(14, 0xD800, 65, 0)]), (4, 0))
        self.assertEqual(judged(properties=[(6, 0xD800, 65, 0)]), (7, 0))
        self.assertEqual(judged(properties=[(6, 65, 70, 48), (6, 71, 80, 48)]), (8, 0))
        self.assertEqual(judged(properties=[(6, 65, 70, 1), (6, 60, 80, 0)]), (7, 1))
        self.assertEqual(judged(properties=[(6, 65, 70, 1), (6, 71, 80, 0)]), (8, 1))

    def test_a_late_record_is_told_by_its_number(self):
        properties = [(6, 2 * place, 2 * place, 1) for place in range(9)]
        self.assertEqual(judged(properties=properties + [(6, 30, 30, 48)]), (8, 9))
        self.assertEqual(judged(properties=properties[:5] + [(6, 9, 9, 1)]), (9, 5))

    def test_records_before_rules(self):
        self.assertEqual(judged(properties=[(6, 65, 65, 1), (6, 66, 66, 1), (14, 70, 70, 1)]), (9, 1))
        self.assertEqual(judged_raw(properties=[6, 65, 65, 0, 6]), (8, 0))


class Maps(unittest.TestCase):
    def test_well(self):
        self.assertEqual(judged(maps=[(12, 65, [66]), (12, 66, [65]), (13, 60, [61]), (14, 0x10FFFF, [0])]), 0)

    def test_6_too_few_numbers_before_all_else(self):
        self.assertEqual(judged_raw(maps=[99]), (6, 0))
        self.assertEqual(judged_raw(maps=[99, 0xD800]), (6, 0))
        self.assertEqual(judged_raw(maps=[12, 65, 1, 66, 12]), (6, 1))

    def test_4(self):
        self.assertEqual(judged(maps=[(15, 65, [66])]), (4, 0))
        self.assertEqual(judged(maps=[(13, 65, [66]), (12, 70, [71])]), (4, 1))

    def test_10(self):
        for number in NO_SCALARS:
            self.assertEqual(judged(maps=[(12, number, [66])]), (10, 0))
        self.assertEqual(judged(maps=[(12, 65, [66]), (12, 65, [67])]), (10, 1))
        self.assertEqual(judged(maps=[(12, 65, [66]), (12, 64, [67])]), (10, 1))
        self.assertEqual(judged(maps=[(12, 65, [66]), (13, 64, [67])]), 0)

    def test_11(self):
        for kind, most in enumerate(ROW_MOST):
            self.assertEqual(judged_raw(maps=[kind, 65, 0]), (11, 0))
            self.assertEqual(judged(maps=[(kind, 65, [66] * (most + 1))]), (11, 0))
            self.assertEqual(judged_raw(maps=[kind, 65, 4294967295]), (11, 0))
            self.assertNotEqual(judged(maps=[(kind, 65, [66])]), (11, 0))
            self.assertNotEqual(judged(maps=[(kind, 65, [66] * most)]), (11, 0))

    def test_6_as_many_follow(self):
        self.assertEqual(judged_raw(maps=[9, 65, 2, 66]), (6, 0))
        self.assertEqual(judged_raw(maps=[9, 65, 1]), (6, 0))
        self.assertEqual(judged_raw(maps=[9, 65, 2, 66, 67]), 0)
        self.assertEqual(judged_raw(maps=[9, 65, 2, 66, 67, 9, 66, 2, 67]), (6, 1))
        self.assertEqual(judged_raw(maps=[9, 65, 2, 66, 67, 9, 68, 18] + [69] * 17), (6, 1))

    def test_12(self):
        for kind in range(15):
            if kind not in (10, 11):
                for number in NO_SCALARS:
                    self.assertEqual(judged(maps=[(kind, 65, [number])]), (12, 0))
        self.assertEqual(judged(maps=[(9, 65, [66, 0xD800])]), (12, 0))
        self.assertEqual(judged(maps=[(10, 65, [256])]), (12, 0))
        self.assertEqual(judged(maps=[(10, 65, [0, 256])]), (12, 0))
        self.assertEqual(judged(maps=[(10, 65, [1, 1])]), (12, 0))
        self.assertEqual(judged(maps=[(10, 65, [2, 1])]), (12, 0))
        self.assertEqual(judged(maps=[(10, 65, [0, 1, 2])]), 0)
        self.assertEqual(judged(maps=[(10, 65, [0, 255])]), (29, 0))
        self.assertEqual(judged(maps=[(11, 65, [0xFFFFFFFF])]), 0)

    def test_13(self):
        for kind in range(15):
            told = judged(maps=[(kind, 65, [65])])
            self.assertEqual(told == (13, 0), kind not in (10, 11), kind)
        self.assertEqual(judged(maps=[(10, 2, [2])]), 0)
        self.assertEqual(judged(maps=[(11, 1, [1])]), 0)
        self.assertNotEqual(judged(maps=[(9, 65, [65, 66])]), (13, 0))

    def test_order_of_a_records_rules(self):
        self.assertEqual(judged_raw(maps=[15, 0xD800, 0]), (4, 0))
        self.assertEqual(judged_raw(maps=[12, 0xD800, 0]), (10, 0))
        self.assertEqual(judged_raw(maps=[12, 65, 2, 0xD800]), (11, 0))
        self.assertEqual(judged_raw(maps=[9, 65, 2, 0xD800]), (6, 0))
        self.assertEqual(judged_raw(maps=[12, 0xD800, 1]), (10, 0))

    def test_records_before_rules(self):
        self.assertEqual(judged(maps=[(12, 65, [66]), (12, 66, [66]), (15, 66, [66])]), (13, 1))


class Sequences(unittest.TestCase):
    def test_well(self):
        self.assertEqual(judged(sequences=[(0, [65, 66], [0]), (1, [65], [0]), (2, [65, 66], [65535])]), 0)

    def test_6_too_few_numbers_before_all_else(self):
        self.assertEqual(judged_raw(sequences=[99]), (6, 0))
        self.assertEqual(judged_raw(sequences=[1, 1, 65, 1, 7, 1]), (6, 1))

    def test_4(self):
        self.assertEqual(judged(sequences=[(3, [65, 66], [1])]), (4, 0))
        self.assertEqual(judged(sequences=[(2, [65, 66], [1]), (1, [65], [1])]), (4, 1))

    def test_14_length(self):
        for kind, least, most in ((0, 2, 18), (1, 1, 32), (2, 2, 32)):
            for length in (least, most):
                self.assertEqual(judged(sequences=[(kind, [65] * length, [0])]), 0)
            for length in (0, least - 1, most + 1):
                self.assertEqual(judged(sequences=[(kind, [65] * length, [0])]), (14, 0))
            self.assertEqual(judged_raw(sequences=[kind, 4294967295]), (14, 0))

    def test_6_key_and_a_number_behind(self):
        self.assertEqual(judged_raw(sequences=[1, 2, 65]), (6, 0))
        self.assertEqual(judged_raw(sequences=[1, 2, 65, 66]), (6, 0))
        self.assertEqual(judged_raw(sequences=[1, 2, 0xD800, 66]), (6, 0))
        self.assertEqual(judged_raw(sequences=[1, 2, 0xD800, 66, 0]), (14, 0))
        self.assertEqual(judged_raw(sequences=[1, 1, 65, 1, 7, 1, 5, 66, 66, 66, 66, 66]), (6, 1))

    def test_14_scalars_and_order(self):
        for number in NO_SCALARS:
            self.assertEqual(judged(sequences=[(1, [65, number], [1])]), (14, 0))
        for second in ([65, 66], [65], [65, 65], [64, 70], [65, 65, 99]):
            self.assertEqual(judged(sequences=[(1, [65, 66], [1]), (1, second, [1])]), (14, 1))
        for second in ([65, 66, 0], [65, 67], [66]):
            self.assertEqual(judged(sequences=[(1, [65, 66], [1]), (1, second, [1])]), 0)
        self.assertEqual(judged(sequences=[(1, [65, 66], [1]), (2, [65, 66], [1])]), 0)

    def test_15_how_many(self):
        for kind, most in ((0, 18), (1, 1), (2, 1)):
            self.assertEqual(judged(sequences=[(kind, [65, 66], [0] * most)]), 0)
            self.assertEqual(judged(sequences=[(kind, [65, 66], [])]), (15, 0))
            self.assertEqual(judged(sequences=[(kind, [65, 66], [0] * (most + 1))]), (15, 0))

    def test_6_as_many_as_told(self):
        self.assertEqual(judged_raw(sequences=[1, 1, 65, 1]), (6, 0))
        self.assertEqual(judged_raw(sequences=[0, 2, 65, 66, 2, 0]), (6, 0))
        self.assertEqual(judged_raw(sequences=[0, 2, 65, 66, 2, 0, 0]), 0)
        self.assertEqual(judged_raw(sequences=[0, 2, 65, 66, 2, 0, 0, 0, 2, 65, 67, 9, 0, 0]), (6, 1))

    def test_15_numbers_below_65536(self):
        for kind in (1, 2):
            self.assertEqual(judged(sequences=[(kind, [65, 66], [65535])]), 0)
            self.assertEqual(judged(sequences=[(kind, [65, 66], [65536])]), (15, 0))
        element = 1 << 15 | 1 << 5 | 1
        self.assertEqual(judged(sequences=[(0, [65, 66], [element | 1 << 31])]), 0)

    def test_order_of_a_records_rules(self):
        self.assertEqual(judged_raw(sequences=[3, 0]), (4, 0))
        self.assertEqual(judged_raw(sequences=[1, 33, 65]), (14, 0))
        self.assertEqual(judged_raw(sequences=[1, 1, 0xD800, 0]), (14, 0))
        self.assertEqual(judged_raw(sequences=[1, 1, 65, 2]), (15, 0))

    def test_records_before_rules(self):
        self.assertEqual(judged(sequences=[(1, [65], [1]), (1, [66], [65536]), (3, [65], [1])]), (15, 1))


def made_up_names(count):
    letters = "abcdefghijklmnopqrstuvwxyz"
    return ["A" + letters[i // 26] + letters[i % 26] + "a" for i in range(count)]


FIRST_THREE = ["Zzzz", "Zyyy", "Zinh"]


class Names(unittest.TestCase):
    def test_none_or_three_at_least(self):
        self.assertEqual(judged(names=[]), 0)
        self.assertEqual(judged(names=["Zzzz"]), (16, 1))
        self.assertEqual(judged(names=["Zzzz", "Zyyy"]), (16, 2))
        self.assertEqual(judged(names=FIRST_THREE), 0)
        self.assertEqual(judged(names=FIRST_THREE + ["Latn"]), 0)

    def test_four_numbers_each(self):
        for part in ("L", "La", "Lat"):
            self.assertEqual(judged(names=FIRST_THREE + [part]), (16, 3))
        self.assertEqual(judged(names=["Zz"]), (16, 0))

    def test_letters(self):
        for wrong in ("latn", "LAtn", "LaTn", "LatN", "L tn", "La{n", "Lat`", "@atn", "[atn"):
            self.assertEqual(judged(names=FIRST_THREE + [wrong]), (16, 3))
        self.assertEqual(judged(names=FIRST_THREE + ["Aazz", "Zaza"]), 0)
        names = [ord(letter) for letter in "ZzzzZyyyZinh"]
        self.assertEqual(judged_raw(names=names + [76, 97, 116, 0x161]), (16, 3))

    def test_the_first_three(self):
        self.assertEqual(judged(names=["Latn", "Zyyy", "Zinh"]), (16, 0))
        self.assertEqual(judged(names=["Zzzz", "Zinh", "Zyyy"]), (16, 1))
        self.assertEqual(judged(names=["Zzzz", "Zyyy", "Latn"]), (16, 2))

    def test_new(self):
        self.assertEqual(judged(names=FIRST_THREE + ["Latn", "Latn"]), (16, 4))
        self.assertEqual(judged(names=FIRST_THREE + ["Zzzz"]), (16, 3))

    def test_the_64th_at_the_latest(self):
        self.assertEqual(judged(names=FIRST_THREE + made_up_names(61)), 0)
        self.assertEqual(judged(names=FIRST_THREE + made_up_names(62)), (16, 64))
        self.assertEqual(judged(names=FIRST_THREE + made_up_names(63)), (16, 64))

    def test_the_first_wrong_name_is_told(self):
        self.assertEqual(judged(names=["Zzzz", "Latn", "La"]), (16, 1))
        self.assertEqual(judged(names=["Latn"]), (16, 0))


class Walked(unittest.TestCase):
    def test_17(self):
        picture = 1 << 12
        self.assertEqual(judged(properties=[(13, 0x1000, 0x1FFF, picture)]), 0)
        self.assertEqual(judged(properties=[(6, 0, 9, 1), (13, 0x1000, 0x2000, picture)]), (17, 0))
        self.assertEqual(judged(properties=[(13, 0x1000, 0x9000, 1 << 11)]), 0)
        for kind in (0, 3, 9):
            self.assertEqual(judged(properties=[(kind, 0x2000, 0x3000, 1)]), (17, 0))
            self.assertNotEqual(judged(properties=[(kind, 0x2000, 0x2FFF, 1)]), (17, 0))
        self.assertEqual(judged(properties=[(1, 0x2000, 0x3000, 1)]), 0)
        self.assertEqual(judged(properties=[(12, 0x2000, 0x3000, picture)]), 0)

    def test_17_is_of_all_together(self):
        parts = [(0, 0x2000, 0x23FF, 1), (3, 0x2400, 0x27FF, 1), (9, 0x2800, 0x2BFF, 1), (13, 0x2C00, 0x2FFF, 1 << 12)]
        self.assertNotEqual(judged(properties=parts), (17, 0))
        for place, part in enumerate(parts):
            longer = list(parts)
            longer[place] = (part[0], part[1], part[2] + 1, part[3])
            self.assertEqual(judged(properties=longer), (17, 0))

    def test_17_counts_what_is_no_scalar_too(self):
        self.assertEqual(judged(properties=[(13, 0xD7FF, 0xE7FE, 1 << 12)]), 0)
        self.assertEqual(judged(properties=[(13, 0xD7FF, 0xE7FF, 1 << 12)]), (17, 0))


class Order(unittest.TestCase):
    def test_the_rows_in_order(self):
        wrong = {
            "properties": [(6, 65, 65, 0)],
            "maps": [(12, 65, [65])],
            "sequences": [(1, [65], [65536])],
            "names": ["Latn"],
        }
        told = [(8, 0), (13, 0), (15, 0), (16, 0)]
        for first in range(4):
            rows = dict(list(wrong.items())[first:])
            self.assertEqual(judged(**rows), told[first])

    def test_16_before_17_before_20(self):
        loop = [(0, 65, [66]), (0, 66, [65])]
        walked = [(0, 0x2000, 0x3000, 1)]
        self.assertEqual(judged(maps=loop, properties=walked, names=["Latn"]), (16, 0))
        self.assertEqual(judged(maps=loop, properties=walked), (17, 0))
        self.assertEqual(judged(maps=loop), (20, 0))

    def test_more_than_8192_numbers_together(self):
        names = [ord(letter) for letter in "ZzzzZyyyZinh"]
        properties = flat([(12, 2 * i, 2 * i, 1) for i in range(1024)])
        maps = flat([map_record(12, 2 * i, [2 * i + 1]) for i in range(1000)])
        sequences = flat([sequence_record(1, [i], [1]) for i in range(12)])
        free = 8192 - len(properties) - len(maps) - len(sequences) - len(names)
        sequences += sequence_record(1, [99] * (free - 4), [1])
        self.assertEqual(run(raw_book_call(properties, maps, sequences, names)), [[0]])
        for place in range(4):
            rows = [properties, maps, sequences, names]
            rows[place] = rows[place] + [0]
            self.assertEqual(run(raw_book_call(*rows)), [[-6]])
        self.assertEqual(run(raw_book_call([99] * 8193)), [[-6]])
        self.assertEqual(run(raw_book_call([99] * 8192)), [[-5, 4, 0]])

    def test_a_refused_book_changes_nothing(self):
        first = book_call(properties=[(7, 65, 65, 3)])
        wrong = book_call(properties=[(7, 65, 65, 1), (7, 66, 66, 9)])
        late = book_call(properties=[(7, 66, 66, 3), (13, 65, 65, 1 << 16)])
        long = raw_book_call([7] * 8193)
        width = [3, 0] + row([65, 66])
        told = run(width, first, width, wrong, width, late, width, long, width, book_call(), width)
        self.assertEqual(told, [[2], [0], [3], [-5, 8, 1], [3], [-5, 31, 1], [3], [-6], [3], [0], [2]])


if __name__ == "__main__":
    unittest.main()
