"""The rules that a book's four rows keep record by record, 4 to 16, and rule 17.

A function that judges one record answers the number of the first rule it breaks, 0 where it
breaks none; a function that judges a row answers that rule and the record, [] where all hold.
"""

from brokenlinesdesk.bits import has_bit
from brokenlinesdesk.kinds import BRACKET, COMBINING, CONJUNCT, EXTENSIONS, FLAGS, PICTOGRAPHIC, WEIGHTS
from brokenlinesdesk.scalars import FIRST_SURROGATE, LAST_SURROGATE, all_scalars, is_scalar

VALUE_MOST = (254, 28, 13, 3, 18, 14, 47, 5, 22, 2, 255, 10, 8191, 1048575)
ROW_MOST = (2, 18, 3, 3, 3, 3, 1, 1, 1, 18, 32, 18, 1, 1, 1)
KEY_LEAST = (2, 1, 2)
KEY_MOST = (18, 32, 32)
COMES_TO_MOST = (18, 1, 1)

SCRIPTS_END = 256
NUMBERS_END = 65536
WALKED_MOST = 4096

NAMES_MOST = 64
FIRST_NAMES = ((90, 122, 122, 122), (90, 121, 121, 121), (90, 105, 110, 104))


def touch(last, first):
    return first == last + 1 or (last == FIRST_SURROGATE - 1 and first == LAST_SURROGATE + 1)


def range_rule(numbers, at):
    if len(numbers) - at < 4:
        return 6
    kind = numbers[at]
    if kind >= len(VALUE_MOST) or (at > 0 and kind < numbers[at - 4]):
        return 4
    first = numbers[at + 1]
    last = numbers[at + 2]
    follows = at > 0 and kind == numbers[at - 4]
    if not is_scalar(first) or (follows and first <= numbers[at - 2]):
        return 7
    if not is_scalar(last) or last < first:
        return 7
    value = numbers[at + 3]
    if not 1 <= value <= VALUE_MOST[kind]:
        return 8
    if follows and touch(numbers[at - 2], first) and value == numbers[at - 1]:
        return 9
    return 0


def broken_range(numbers):
    for at in range(0, len(numbers), 4):
        rule = range_rule(numbers, at)
        if rule > 0:
            return [rule, at // 4]
    return []


def rises(numbers):
    for place in range(1, len(numbers)):
        if numbers[place] <= numbers[place - 1]:
            return False
    return True


def row_fits(kind, row):
    if kind == WEIGHTS:
        return True
    if kind == EXTENSIONS:
        return rises(row) and row[-1] < SCRIPTS_END
    return all_scalars(row)


# Where "before" is below 0 there is no record before this one.
def map_rule(numbers, at, before):
    if len(numbers) - at < 3:
        return 6
    kind = numbers[at]
    if kind >= len(ROW_MOST) or (before >= 0 and kind < numbers[before]):
        return 4
    scalar = numbers[at + 1]
    follows = before >= 0 and kind == numbers[before]
    if not is_scalar(scalar) or (follows and scalar <= numbers[before + 1]):
        return 10
    many = numbers[at + 2]
    if not 1 <= many <= ROW_MOST[kind]:
        return 11
    if len(numbers) - at - 3 < many:
        return 6
    row = numbers[at + 3:at + 3 + many]
    if not row_fits(kind, row):
        return 12
    if kind != EXTENSIONS and kind != WEIGHTS and row == [scalar]:
        return 13
    return 0


def map_end(numbers, at):
    return at + 3 + numbers[at + 2]


def key_at(numbers, at):
    return numbers[at + 2:at + 2 + numbers[at + 1]]


def comes_to_rule(numbers, at, kind):
    many = numbers[at]
    if not 1 <= many <= COMES_TO_MOST[kind]:
        return 15
    if len(numbers) - at - 1 < many:
        return 6
    if kind > 0 and numbers[at + 1] >= NUMBERS_END:
        return 15
    return 0


def sequence_rule(numbers, at, before):
    if len(numbers) - at < 2:
        return 6
    kind = numbers[at]
    if kind >= len(KEY_MOST) or (before >= 0 and kind < numbers[before]):
        return 4
    length = numbers[at + 1]
    if not KEY_LEAST[kind] <= length <= KEY_MOST[kind]:
        return 14
    if len(numbers) - at - 2 < length + 1:
        return 6
    key = key_at(numbers, at)
    follows = before >= 0 and kind == numbers[before]
    if not all_scalars(key) or (follows and key <= key_at(numbers, before)):
        return 14
    return comes_to_rule(numbers, at + 2 + length, kind)


def sequence_end(numbers, at):
    key_end = at + 2 + numbers[at + 1]
    return key_end + 1 + numbers[key_end]


# Maps and sequences are gone through alike: only a record's rules and its end differ.
def broken_among(numbers, record_rule, record_end):
    before = -1
    at = 0
    record = 0
    while at < len(numbers):
        rule = record_rule(numbers, at, before)
        if rule > 0:
            return [rule, record]
        before = at
        at = record_end(numbers, at)
        record += 1
    return []


def is_capital(number):
    return 65 <= number <= 90


def is_small(number):
    return 97 <= number <= 122


def is_name(name):
    return len(name) == 4 and is_capital(name[0]) and all([is_small(letter) for letter in name[1:]])


def name_fits(name, number, names):
    if not is_name(name) or name in names or number >= NAMES_MOST:
        return False
    return number >= len(FIRST_NAMES) or name == FIRST_NAMES[number]


def broken_name(numbers):
    names = {}
    for at in range(0, len(numbers), 4):
        name = tuple(numbers[at:at + 4])
        if not name_fits(name, at // 4, names):
            return [16, at // 4]
        names[name] = True
    if 0 < len(names) < len(FIRST_NAMES):
        return [16, len(names)]
    return []


def is_walked(kind, value):
    return kind in (COMBINING, CONJUNCT, BRACKET) or (kind == FLAGS and has_bit(value, PICTOGRAPHIC))


# Later rules ask these ranges scalar by scalar: this bounds how long that takes.
def broken_walk(numbers):
    walked = 0
    for at in range(0, len(numbers), 4):
        if is_walked(numbers[at], numbers[at + 3]):
            walked += numbers[at + 2] - numbers[at + 1] + 1
    if walked > WALKED_MOST:
        return [17, 0]
    return []


def broken_record(rows):
    broken = broken_range(rows[0])
    if not broken:
        broken = broken_among(rows[1], map_rule, map_end)
    if not broken:
        broken = broken_among(rows[2], sequence_rule, sequence_end)
    if not broken:
        broken = broken_name(rows[3])
    if not broken:
        broken = broken_walk(rows[0])
    return broken
