"""Rules 20 to 30 of a book, clause by clause.

A clause is the rule's number, the records that it is asked of (the book's part and the kind)
and the function that says whether a record keeps it.
"""

from brokenlinesdesk.book import STEPS_MOST
from brokenlinesdesk.kinds import (
    BRACKET, CANONICAL, COMBINING, COMPATIBILITY, DIGIT, DIRECTION, EXTENSIONS, FOLD, IGNORABLE, MAPS,
    MIRROR, MIRRORED, NEUTRAL, NEVER_COMPOSED, PARTNER, PROPERTIES, PROTOTYPE, SCRIPT, SIMPLE_FOLD,
)
from brokenlinesdesk.scalars import is_hangul, is_scalar

# Unknown, common and inherited are scripts of a book without names too.
UNNAMED_SCRIPTS = 3


def firsts_end(book, scalar):
    steps = 0
    step = book.canonical_step(scalar)
    while step and steps < STEPS_MOST:
        step = book.canonical_step(step[0])
        steps += 1
    return not step


# 20
def canonical_steps_end(book, record):
    behind = record[2][1:]
    return firsts_end(book, record[1]) and not any([len(book.canonical_step(scalar)) > 0 for scalar in behind])


# 21, of map 0
def canonical_row_without_hangul(book, record):
    return not is_hangul(record[1]) and not any([is_hangul(scalar) for scalar in record[2]])


# 21, of map 1
def scalar_is_no_hangul(book, record):
    return not is_hangul(record[1])


# 21, of property 0
def range_without_hangul(book, record):
    return not any([is_hangul(scalar) for scalar in range(record[1], record[2] + 1)])


# 22; that it's at most 18 scalars is so since rule 20: a step adds one at most.
def taken_apart_in_order(book, record):
    return book.in_order(book.taken_apart(record[1]))


# 23, first clause
def has_no_canonical_row(book, record):
    return not book.has_row(CANONICAL, record[1])


# 23, second and third clause
def ends_by_k(book, record):
    return len(book.by_k(record[1])) > 0


# 24; that a row isn't two of a syllable is so since rule 21.
def composes_alone(book, record):
    scalar = record[1]
    row = record[2]
    if book.has_flag(NEVER_COMPOSED, scalar):
        return True
    if len(row) != 2 or book.value(COMBINING, scalar) != 0 or book.value(COMBINING, row[0]) != 0:
        return False
    return book.composing[row] == 1


# 25, of map 5
def folded_stays(book, record):
    for scalar in record[2]:
        for part in [scalar] + book.taken_apart(scalar):
            if book.has_row(FOLD, part):
                return False
    return True


# 25, of map 6
def simply_folded_stays(book, record):
    return not book.has_row(SIMPLE_FOLD, record[2][0])


def goes_both_ways(book, kind, record):
    return book.row(kind, record[2][0]) == (record[1],)


# 26
def mirror_holds(book, record):
    return goes_both_ways(book, MIRROR, record) and book.has_flag(MIRRORED, record[1])


# 27, of map 8
def partner_holds(book, record):
    scalar = record[1]
    bracket = book.value(BRACKET, scalar)
    if bracket == 0 or book.value(BRACKET, record[2][0]) != 3 - bracket:
        return False
    return goes_both_ways(book, PARTNER, record) and book.value(DIRECTION, scalar) == NEUTRAL


# 27, of property 9
def brackets_have_partners(book, record):
    for scalar in range(record[1], record[2] + 1):
        if is_scalar(scalar) and not book.has_row(PARTNER, scalar):
            return False
    return True


# 28
def digits_stand_in_tens(book, record):
    nought = record[1] - record[3] + 1
    if record[1] != record[2]:
        return False
    return all([book.value(DIGIT, nought + digit) == digit + 1 for digit in range(10)])


def script_count(book):
    if book.name_count == 0:
        return UNNAMED_SCRIPTS
    return book.name_count


# 29, of property 10
def script_is_named(book, record):
    return record[3] < script_count(book)


# 29, of map 10
def scripts_are_named(book, record):
    return all([script < script_count(book) for script in record[2]])


# 30
def prototype_stays(book, record):
    for scalar in record[2]:
        for part in book.taken_apart(scalar):
            if book.has_row(PROTOTYPE, part) or book.has_flag(IGNORABLE, part):
                return False
    return True


def clauses_20_to_30():
    return (
        (20, MAPS, CANONICAL, canonical_steps_end),
        (21, MAPS, CANONICAL, canonical_row_without_hangul),
        (21, MAPS, COMPATIBILITY, scalar_is_no_hangul),
        (21, PROPERTIES, COMBINING, range_without_hangul),
        (22, MAPS, CANONICAL, taken_apart_in_order),
        (23, MAPS, COMPATIBILITY, has_no_canonical_row),
        (23, MAPS, COMPATIBILITY, ends_by_k),
        (23, MAPS, CANONICAL, ends_by_k),
        (24, MAPS, CANONICAL, composes_alone),
        (25, MAPS, FOLD, folded_stays),
        (25, MAPS, SIMPLE_FOLD, simply_folded_stays),
        (26, MAPS, MIRROR, mirror_holds),
        (27, MAPS, PARTNER, partner_holds),
        (27, PROPERTIES, BRACKET, brackets_have_partners),
        (28, PROPERTIES, DIGIT, digits_stand_in_tens),
        (29, PROPERTIES, SCRIPT, script_is_named),
        (29, MAPS, EXTENSIONS, scripts_are_named),
        (30, MAPS, PROTOTYPE, prototype_stays),
    )
