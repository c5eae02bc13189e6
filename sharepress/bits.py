"""Rows of bits, and the numbers that they are as binary figures."""

from sharepress.errors import NoBit


def check_bits(bits):
    for bit in bits:
        if bit not in (0, 1):
            raise NoBit("a number other than 0 and 1 among bits")


def figures(number, length):
    return [(number >> place) & 1 for place in range(length - 1, -1, -1)]


def number_of(bits):
    number = 0
    for bit in bits:
        number = 2 * number + bit
    return number
