"""Reading: texts told from bits, in whatever pieces the bits come.

A state is a tuple (model, opening, bits_read): the model that each text begins
with, the text begun, and how many bits were read in all.

An opening is a tuple (signs, now, part, count): the signs that are certain, the
model as it is behind them, the part that the bits of this text stand for, and
how many these bits are.

A part is a tuple (start, size, whole): where the range of the certain signs is
taken as all from nought to one, it has all from start / whole on that are less
than (start + size) / whole.
"""

from sharepress.bits import check_bits
from sharepress.shares import END, behind_sign, check_model, share_at, total_share

ALL = (0, 1, 1)


def opened(model):
    return ("", model, ALL, 0)


def begun(model):
    check_model(model)
    kind, shares, end = model
    # A list of its own, as the one handed in may be changed between two pieces.
    own = (kind, list(shares), end)
    return (own, opened(own), 0)


def halved(part, bit):
    start, size, whole = part
    return (2 * start + bit * size, size, 2 * whole)


def widened(part, place):
    start, size, whole = part
    first, share, total = place
    return (start * total - first * whole, size * total, share * whole)


def is_too_wide(part, model):
    start, size, whole = part
    kind, shares, end = model
    # Spares most of the reckoning with long numbers: no sign has more than half of the total.
    return 2 * size > whole and 2 * end <= total_share(model)


def entered(part, model):
    if is_too_wide(part, model):
        return None
    start, size, whole = part
    # Only the share in which the part starts can have all of it.
    sign, place = share_at(model, start * total_share(model) // whole)
    inner = widened(part, place)
    start, size, whole = inner
    return (sign, inner) if start + size <= whole else None


def settled(opening):
    signs, now, part, count = opening
    step = entered(part, now)
    while step is not None:
        sign, part = step
        if sign == END:
            return ((signs, now, part, count), True)
        signs += sign
        now = behind_sign(now, sign)
        step = entered(part, now)
    return ((signs, now, part, count), False)


def lengthened(opening, bit):
    signs, now, part, count = opening
    return (signs, now, halved(part, bit), count + 1)


def signs_and_count(opening):
    signs, now, part, count = opening
    return (signs, count)


def fed(state, bits):
    check_bits(bits)
    model, opening, bits_read = state
    told = []
    for bit in bits:
        opening, ended = settled(lengthened(opening, bit))
        if ended:
            signs, count = signs_and_count(opening)
            told.append((signs, bits_read))
            opening = opened(model)
        bits_read += 1
    return ((model, opening, bits_read), told)


def open_text(state):
    model, opening, bits_read = state
    return signs_and_count(opening)


def read(model, pieces):
    state = begun(model)
    texts = []
    for piece in pieces:
        state, told = fed(state, piece)
        texts.extend(told)
    return (texts, open_text(state))
