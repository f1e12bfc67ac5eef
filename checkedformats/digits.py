"""Whole numbers of so many bits, and their digits."""

from checkedformats.signs import BIG_A, LETTER_BIG_X, LITTLE_A, ZERO

# How many numbers there are of the bits that each length stands for: 8, 16, 32, 64.
SPANS = {
    "hh": 256,
    "h": 65536,
    "": 4294967296,
    "l": 18446744073709551616,
    "ll": 18446744073709551616,
    "j": 18446744073709551616,
    "z": 18446744073709551616,
}

# o, x and X; the others are decimal.
BASES = {111: 8, 120: 16, 88: 16}


def unsigned_number(value, length):
    return value % SPANS[length]


def signed_number(value, length):
    span = SPANS[length]
    low = value % span
    return low - span if low >= span // 2 else low


def digit_sign(digit, conversion):
    if digit < 10:
        return ZERO + digit
    first = BIG_A if conversion == LETTER_BIG_X else LITTLE_A
    return first + digit - 10


def digits_of(magnitude, conversion, least):
    """The digits of a number not below 0, at least so many; the number 0 has only the zeros put before."""
    base = BASES.get(conversion, 10)
    backwards = []
    rest = magnitude
    while rest > 0:
        backwards.append(digit_sign(rest % base, conversion))
        rest = rest // base
    while len(backwards) < least:
        backwards.append(ZERO)
    return list(reversed(backwards))
