"""Rules 31 to 41 of a book, clause by clause, told as rules 20 to 30 are."""

from brokenlinesdesk.bits import has_bit
from brokenlinesdesk.kinds import (
    CANONICAL, CASED, CLUSTER, COMBINING, COMPATIBILITY, CONJUNCT, CONJUNCT_EXTEND, CONSONANT,
    CONTRACTIONS, FLAGS, FOLD, ID_PART, ID_START, LINKER, LOWER, LOWERCASE, MAPS, PICTOGRAPHIC,
    PROPERTIES, SEQUENCES, SPARE, TITLE, UPPER, UPPERCASE, WEIGHTS,
)
from brokenlinesdesk.scalars import is_scalar

# Cluster classes that these rules speak of.
OTHER = 0
EXTEND = 4
ZWJ = 5
SPACING_MARK = 8
VOWEL = 10

# The bit of an element of orders that is no weight's.
VARIABLE = 31


def scalars_of(record):
    return [scalar for scalar in range(record[1], record[2] + 1) if is_scalar(scalar)]


# 31
def flags_agree(book, record):
    flags = record[3]
    if has_bit(flags, ID_START) and not has_bit(flags, ID_PART):
        return False
    return not has_bit(flags, SPARE)


# 32
def combining_extends(book, record):
    for scalar in scalars_of(record):
        if book.value(CLUSTER, scalar) != EXTEND or book.value(CONJUNCT, scalar) == CONSONANT:
            return False
    return True


def as_the_first(book, scalar, first):
    if book.value(CLUSTER, scalar) != book.value(CLUSTER, first):
        return False
    if book.value(CONJUNCT, scalar) != book.value(CONJUNCT, first):
        return False
    return book.has_flag(PICTOGRAPHIC, scalar) == book.has_flag(PICTOGRAPHIC, first)


def conjuncts_follow(first, second):
    if first in (CONSONANT, CONJUNCT_EXTEND):
        return second == CONJUNCT_EXTEND
    if first == LINKER:
        return second in (LINKER, CONJUNCT_EXTEND)
    return True


def second_follows(book, first, second):
    cluster = book.value(CLUSTER, first)
    if cluster not in (OTHER, EXTEND, SPACING_MARK, VOWEL):
        return False
    wanted = VOWEL if cluster == VOWEL else EXTEND
    if book.value(CLUSTER, second) != wanted:
        return False
    return conjuncts_follow(book.value(CONJUNCT, first), book.value(CONJUNCT, second))


# 33
def canonical_row_stays_cluster(book, record):
    row = record[2]
    if not as_the_first(book, record[1], row[0]):
        return False
    return len(row) == 1 or second_follows(book, row[0], row[1])


def first_weight(number):
    return number >> 15 & 0xFFFF


def second_weight(number):
    return number >> 5 & 0x3FF


def third_weight(number):
    return number & 0x1F


def is_first_weight_alone(number):
    return first_weight(number) > 0 and second_weight(number) == 0 and third_weight(number) == 0


# All three, the last two, the last or none: each weight above 0 has the next above 0 too.
def weights_fit(number):
    if first_weight(number) > 0 and second_weight(number) == 0:
        return False
    return second_weight(number) == 0 or third_weight(number) > 0


def variable_fits(number):
    return first_weight(number) > 0 or not has_bit(number, VARIABLE)


# 34
def weights_hold(book, record):
    row = record[2]
    for place in range(len(row)):
        number = row[place]
        if is_first_weight_alone(number):
            if place == 0 or has_bit(number, VARIABLE) != has_bit(row[place - 1], VARIABLE):
                return False
        elif not weights_fit(number) or not variable_fits(number):
            return False
    return True


# 35
def contraction_holds(book, record):
    key = record[1]
    if any([len(book.canonical_step(scalar)) > 0 for scalar in key]):
        return False
    return book.in_order(key) and book.value(COMBINING, key[0]) == 0


# 36
def weighed_has_no_step(book, record):
    return len(book.canonical_step(record[1])) == 0


# 37, of maps 2, 3 and 4
def scalar_is_cased(book, record):
    return book.has_flag(CASED, record[1])


# 37, of flags
def letter_case_is_cased(book, record):
    flags = record[3]
    return has_bit(flags, CASED) or not (has_bit(flags, UPPERCASE) or has_bit(flags, LOWERCASE))


# 38
def scalar_has_no_class(book, record):
    return book.value(COMBINING, record[1]) == 0


# Folded, and taken apart by K.
def folded_by_k(book, scalar):
    folded = book.row(FOLD, scalar) if book.has_row(FOLD, scalar) else (scalar,)
    parts = []
    for part in folded:
        parts.extend(book.by_k(part))
    return parts


# 39
def folding_settles(book, record):
    for scalar in folded_by_k(book, record[1]):
        for part in folded_by_k(book, scalar):
            if book.has_row(FOLD, part):
                return False
    return True


# 40
def conjuncts_hold(book, record):
    wanted = (OTHER,) if record[3] == CONSONANT else (EXTEND, ZWJ)
    return all([book.value(CLUSTER, scalar) in wanted for scalar in scalars_of(record)])


# 41
def pictures_hold(book, record):
    if not has_bit(record[3], PICTOGRAPHIC):
        return True
    return all([book.value(CLUSTER, scalar) == OTHER for scalar in scalars_of(record)])


def clauses_31_to_41():
    return (
        (31, PROPERTIES, FLAGS, flags_agree),
        (32, PROPERTIES, COMBINING, combining_extends),
        (33, MAPS, CANONICAL, canonical_row_stays_cluster),
        (34, MAPS, WEIGHTS, weights_hold),
        (34, SEQUENCES, CONTRACTIONS, weights_hold),
        (35, SEQUENCES, CONTRACTIONS, contraction_holds),
        (36, MAPS, WEIGHTS, weighed_has_no_step),
        (37, MAPS, UPPER, scalar_is_cased),
        (37, MAPS, LOWER, scalar_is_cased),
        (37, MAPS, TITLE, scalar_is_cased),
        (37, PROPERTIES, FLAGS, letter_case_is_cased),
        (38, MAPS, COMPATIBILITY, scalar_has_no_class),
        (39, MAPS, FOLD, folding_settles),
        (39, MAPS, COMPATIBILITY, folding_settles),
        (39, MAPS, CANONICAL, folding_settles),
        (40, PROPERTIES, CONJUNCT, conjuncts_hold),
        (41, PROPERTIES, FLAGS, pictures_hold),
    )
