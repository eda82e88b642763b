"""A book whose records are whole: they by kind, and what they say of a scalar."""

from brokenlinesdesk.bits import has_bit
from brokenlinesdesk.kinds import (
    CANONICAL, COMBINING, COMPATIBILITY, FLAGS, MAPS, NEVER_COMPOSED, PROPERTIES, SEQUENCES,
)
from brokenlinesdesk.scalars import is_scalar, is_syllable, syllable_step

PROPERTY_COUNT = 14
MAP_COUNT = 15
SEQUENCE_COUNT = 3

# No decomposition that is allowed has more steps or scalars.
STEPS_MOST = 8
SCALARS_MOST = 18


# Of each property (record, first, last, value), rising.
def range_records(numbers):
    records = [[] for kind in range(PROPERTY_COUNT)]
    for at in range(0, len(numbers), 4):
        records[numbers[at]].append((at // 4, numbers[at + 1], numbers[at + 2], numbers[at + 3]))
    return records


# Of each map (record, scalar, row).
def map_records(numbers):
    records = [[] for kind in range(MAP_COUNT)]
    at = 0
    record = 0
    while at < len(numbers):
        behind = at + 3 + numbers[at + 2]
        records[numbers[at]].append((record, numbers[at + 1], tuple(numbers[at + 3:behind])))
        at = behind
        record += 1
    return records


# Of each kind of sequences (record, key, row).
def sequence_records(numbers):
    records = [[] for kind in range(SEQUENCE_COUNT)]
    at = 0
    record = 0
    while at < len(numbers):
        key_end = at + 2 + numbers[at + 1]
        behind = key_end + 1 + numbers[key_end]
        key = tuple(numbers[at + 2:key_end])
        records[numbers[at]].append((record, key, tuple(numbers[key_end + 1:behind])))
        at = behind
        record += 1
    return records


def lookup(records):
    return dict([(record[1], record[2]) for record in records])


class Book:
    def __init__(self, rows):
        self.parts = [range_records(rows[0]), map_records(rows[1]), sequence_records(rows[2])]
        self.map_rows = [lookup(records) for records in self.parts[MAPS]]
        self.sequence_rows = [lookup(records) for records in self.parts[SEQUENCES]]
        self.name_count = len(rows[3]) // 4
        self.composing = self.composing_counts()
        self.known_by_k = {}

    def records(self, part, kind):
        return self.parts[part][kind]

    def value(self, kind, scalar):
        ranges = self.parts[PROPERTIES][kind]
        low = 0
        high = len(ranges)
        while low < high:
            middle = (low + high) // 2
            if ranges[middle][2] < scalar:
                low = middle + 1
            else:
                high = middle
        # A range may span the surrogates, which have no value.
        if low < len(ranges) and ranges[low][1] <= scalar and is_scalar(scalar):
            return ranges[low][3]
        return 0

    def has_flag(self, bit, scalar):
        return has_bit(self.value(FLAGS, scalar), bit)

    # No class above 0 right behind a greater one.
    def in_order(self, row):
        classes = [self.value(COMBINING, scalar) for scalar in row]
        for place in range(1, len(classes)):
            if 0 < classes[place] < classes[place - 1]:
                return False
        return True

    def row(self, kind, scalar):
        return self.map_rows[kind].get(scalar, ())

    def has_row(self, kind, scalar):
        return scalar in self.map_rows[kind]

    # The number that a key of words or whole clusters comes to, -1 where it is no key.
    def number_of(self, kind, key):
        if key in self.sequence_rows[kind]:
            return self.sequence_rows[kind][key][0]
        return -1

    def canonical_step(self, scalar):
        if is_syllable(scalar):
            return syllable_step(scalar)
        return self.row(CANONICAL, scalar)

    # Whole once rule 20 holds, which bounds the steps.
    def taken_apart(self, scalar):
        row = [scalar]
        for turn in range(STEPS_MOST):
            step = self.canonical_step(row[0])
            if step:
                row = list(step) + row[1:]
        return row

    def k_step(self, scalar):
        if self.has_row(COMPATIBILITY, scalar):
            return self.row(COMPATIBILITY, scalar)
        return self.canonical_step(scalar)

    def stepped_by_k(self, row):
        stepped = []
        for scalar in row:
            step = self.k_step(scalar)
            if step:
                stepped.extend(step)
            else:
                stepped.append(scalar)
        return stepped

    def has_k_step(self, row):
        return any([len(self.k_step(scalar)) > 0 for scalar in row])

    def find_by_k(self, scalar):
        row = [scalar]
        steps = 0
        # A row never shrinks, so one that is too long already need not be followed.
        while len(row) <= SCALARS_MOST and self.has_k_step(row):
            if steps == STEPS_MOST:
                return []
            row = self.stepped_by_k(row)
            steps += 1
        if len(row) > SCALARS_MOST:
            return []
        return row

    # Empty where rule 23 refuses it: it does not end in time, or is too long.
    def by_k(self, scalar):
        # Kept, since rule 39 asks for the same few scalars again and again.
        if scalar not in self.known_by_k:
            self.known_by_k[scalar] = self.find_by_k(scalar)
        return self.known_by_k[scalar]

    # How many scalars that may be composed have a canonical row.
    def composing_counts(self):
        counts = {}
        for record in self.records(MAPS, CANONICAL):
            if not self.has_flag(NEVER_COMPOSED, record[1]):
                counts[record[2]] = counts.get(record[2], 0) + 1
        return counts
