"""What several tests use: models, texts, and a plain second reckoning."""

from fractions import Fraction
from itertools import product

from sharepress.pressing import all_pressed, pressed
from sharepress.ranges import span_begun, span_ended

ALPHABET = "abcdefghijklmnopqrstuvwxyz"

# Every function that takes a model, as one that takes a model and a text.
TAKERS = {
    "span_begun": span_begun,
    "span_ended": span_ended,
    "pressed": pressed,
    "all_pressed": lambda model, text: all_pressed(model, [text]),
}


def known():
    return ("known", [("a", 2), ("b", 1)], 1)


def learnt():
    return ("learnt", [("a", 1), ("b", 1)], 1)


def small_models():
    return [
        known(),
        learnt(),
        ("known", [("a", 1)], 1),
        ("learnt", [("a", 1)], 1),
        ("known", [("a", 3)], 10),
        ("learnt", [("a", 3)], 10),
        ("known", [("b", 3), ("a", 5), ("z", 1)], 1),
        ("learnt", [("b", 3), ("a", 5), ("z", 1)], 1),
        ("known", [("c", 1), ("b", 4), ("a", 2)], 3),
        ("learnt", [("c", 1), ("b", 4), ("a", 2)], 7),
    ]


def signs_of(model):
    return [sign for sign, share in model[1]]


def texts_up_to(model, length):
    return ["".join(signs) for k in range(length + 1) for signs in product(signs_of(model), repeat=k)]


def edges(span):
    low, wide, whole = span
    return Fraction(low, whole), Fraction(low + wide, whole)


def part_of(row):
    number = sum(bit * 2 ** place for place, bit in enumerate(reversed(row)))
    return Fraction(number, 2 ** len(row)), Fraction(number + 1, 2 ** len(row))


def edges_by_fractions(model, text):
    """The edges of the ended text's range, reckoned apart from the program."""
    kind, shares, end = model
    amounts = dict(shares)
    amounts["end"] = end
    low, high = Fraction(0), Fraction(1)
    for name in list(text) + ["end"]:
        total = sum(amounts.values())
        names = list(amounts)
        first = sum(amounts[other] for other in names[:names.index(name)])
        wide = high - low
        low, high = low + wide * first / total, low + wide * (first + amounts[name]) / total
        if kind == "learnt" and name != "end" and 2 * amounts[name] + 1 <= total:
            amounts[name] += 1
    return low, high


def rows_within(low, high, length):
    """All rows of that length whose part lies within, the least first."""
    rows = []
    for row in product((0, 1), repeat=length):
        first, last = part_of(row)
        if low <= first and last <= high:
            rows.append(list(row))
    return rows
