"""Pressing: the shortest row of bits whose part lies within a range."""

from sharepress.bits import figures
from sharepress.ranges import span_ended
from sharepress.shares import check_model


def least_number(span, length):
    low, wide, whole = span
    # Rounded up, as the part may not begin ahead of the range.
    return ((low << length) + whole - 1) // whole


def ends_within(span, length, number):
    low, wide, whole = span
    return (number + 1) * whole <= (low + wide) << length


def shortest_row(span):
    low, wide, whole = span
    # The part of any shorter row is wider than the range, so the search begins here.
    length = whole.bit_length() - wide.bit_length()
    number = least_number(span, length)
    while not ends_within(span, length, number):
        length += 1
        number = least_number(span, length)
    return figures(number, length)


def pressed(model, text):
    return shortest_row(span_ended(model, text))


def all_pressed(model, texts):
    # Asked here as well, as with no texts nothing else would refuse the model.
    check_model(model)
    bits = []
    for text in texts:
        bits.extend(pressed(model, text))
    return bits
