"""Bits of a whole number."""


def has_bit(number, bit):
    return number >> bit & 1 == 1
