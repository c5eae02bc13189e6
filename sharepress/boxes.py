"""Bits put into numbers of eight bits each, and taken out again."""

from sharepress.bits import check_bits, figures, number_of
from sharepress.errors import NoBox

SIZE = 8
MOST = 255


def filled(row):
    return row + [0] * (SIZE - len(row))


def boxed(bits):
    check_bits(bits)
    if len(bits) == 0:
        return [0]
    numbers = [(len(bits) - 1) % SIZE + 1]
    for first in range(0, len(bits), SIZE):
        numbers.append(number_of(filled(bits[first:first + SIZE])))
    return numbers


def check_numbers(numbers):
    if len(numbers) == 0:
        raise NoBox("no number at all")
    count = numbers[0]
    if count < 0 or count > SIZE:
        raise NoBox("a first number that is below 0 or above 8")
    if count == 0 and len(numbers) > 1:
        raise NoBox("a first number of 0 where further ones follow")
    if count > 0 and len(numbers) == 1:
        raise NoBox("a first number other than 0 where none follows")
    for number in numbers[1:]:
        if number < 0 or number > MOST:
            raise NoBox("a number that is below 0 or above 255")


def unboxed(numbers):
    check_numbers(numbers)
    if len(numbers) == 1:
        return []
    bits = []
    for number in numbers[1:]:
        bits.extend(figures(number, SIZE))
    length = len(bits) - SIZE + numbers[0]
    if 1 in bits[length:]:
        raise NoBox("a one among what should be filled up with noughts")
    return bits[:length]
