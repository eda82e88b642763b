"""Scalars, and Hangul by rule."""

LAST_SCALAR = 0x10FFFF
FIRST_SURROGATE = 0xD800
LAST_SURROGATE = 0xDFFF

FIRST_LEADING = 0x1100
LAST_LEADING = 0x1112
FIRST_VOWEL = 0x1161
LAST_VOWEL = 0x1175
BEFORE_TRAILING = 0x11A7
LAST_TRAILING = 0x11C2
FIRST_SYLLABLE = 0xAC00
LAST_SYLLABLE = 0xD7A3

# How many syllables share a leading and a vowel, and how many share a leading.
SYLLABLES_OF_VOWEL = 28
SYLLABLES_OF_LEADING = 588


def is_scalar(number):
    return 0 <= number <= LAST_SCALAR and not FIRST_SURROGATE <= number <= LAST_SURROGATE


def all_scalars(numbers):
    return all([is_scalar(number) for number in numbers])


def is_leading(scalar):
    return FIRST_LEADING <= scalar <= LAST_LEADING


def is_vowel(scalar):
    return FIRST_VOWEL <= scalar <= LAST_VOWEL


def is_trailing(scalar):
    return BEFORE_TRAILING < scalar <= LAST_TRAILING


def is_syllable(scalar):
    return FIRST_SYLLABLE <= scalar <= LAST_SYLLABLE


# A syllable without a trailing jamo.
def is_lv_syllable(scalar):
    return is_syllable(scalar) and (scalar - FIRST_SYLLABLE) % SYLLABLES_OF_VOWEL == 0


def is_hangul(scalar):
    return is_leading(scalar) or is_vowel(scalar) or is_trailing(scalar) or is_syllable(scalar)


def syllable_step(scalar):
    offset = scalar - FIRST_SYLLABLE
    trailing = offset % SYLLABLES_OF_VOWEL
    if trailing > 0:
        return (scalar - trailing, BEFORE_TRAILING + trailing)
    leading = offset // SYLLABLES_OF_LEADING
    vowel = offset % SYLLABLES_OF_LEADING // SYLLABLES_OF_VOWEL
    return (FIRST_LEADING + leading, FIRST_VOWEL + vowel)
