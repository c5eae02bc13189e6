"""What several tests use: models, texts, and a plain second reckoning."""

from fractions import Fraction
from itertools import product

from sharepress.notes import shown
from sharepress.pressing import all_pressed, pressed
from sharepress.ranges import span_begun, span_ended
from sharepress.reading import begun, read

ALPHABET = "abcdefghijklmnopqrstuvwxyz"

# Every function that takes a model and texts, as one that takes a model and a text.
TEXT_TAKERS = {
    "span_begun": span_begun,
    "span_ended": span_ended,
    "pressed": pressed,
    "all_pressed": lambda model, text: all_pressed(model, [text]),
}

# Every function that takes a model, in the same form.
TAKERS = {
    **TEXT_TAKERS,
    "begun": lambda model, text: begun(model),
    "read": lambda model, text: read(model, [[0, 1, 1] for sign in text]),
    "shown": lambda model, text: shown(model),
}


def known():
    return ("known", [("a", 2), ("b", 1)], 1)


def learnt():
    return ("learnt", [("a", 1), ("b", 1)], 1)


def small_models():
    return [
        known(),
        learnt(),
        ("known", [("a", 1)], 1),
        ("learnt", [("a", 1)], 1),
        ("known", [("a", 3)], 10),
        ("learnt", [("a", 3)], 10),
        ("known", [("b", 3), ("a", 5), ("z", 1)], 1),
        ("learnt", [("b", 3), ("a", 5), ("z", 1)], 1),
        ("known", [("c", 1), ("b", 4), ("a", 2)], 3),
        ("learnt", [("c", 1), ("b", 4), ("a", 2)], 7),
    ]


def signs_of(model):
    return [sign for sign, share in model[1]]


def texts_up_to(model, length):
    return ["".join(signs) for k in range(length + 1) for signs in product(signs_of(model), repeat=k)]


def edges(span):
    low, wide, whole = span
    return Fraction(low, whole), Fraction(low + wide, whole)


def part_of(row):
    number = sum(bit * 2 ** place for place, bit in enumerate(reversed(row)))
    return Fraction(number, 2 ** len(row)), Fraction(number + 1, 2 ** len(row))


class Walk:
    """The range behind some signs, reckoned by fractions and apart from the program."""

    def __init__(self, model):
        kind, shares, end = model
        self.kind = kind
        self.amounts = dict(shares)
        self.amounts["end"] = end
        self.low, self.high = Fraction(0), Fraction(1)

    def edges(self, name):
        total = sum(self.amounts.values())
        names = list(self.amounts)
        first = sum(self.amounts[other] for other in names[:names.index(name)])
        wide = self.high - self.low
        return self.low + wide * first / total, self.low + wide * (first + self.amounts[name]) / total

    def step(self, name):
        self.low, self.high = self.edges(name)
        if self.kind == "learnt" and 2 * self.amounts[name] + 1 <= sum(self.amounts.values()):
            self.amounts[name] += 1

    def holding(self, low, high):
        """The sign, or "end", whose range has all from low to high, or None."""
        for name in self.amounts:
            first, last = self.edges(name)
            if first <= low and high <= last:
                return name
        return None


def edges_by_fractions(model, text):
    walk = Walk(model)
    for sign in text:
        walk.step(sign)
    return walk.edges("end")


def read_by_fractions(model, bits):
    """What read should tell of these bits, by the very words of point 11."""
    told, signs, walk, row = [], "", Walk(model), []
    for place, bit in enumerate(bits):
        row.append(bit)
        low, high = part_of(row)
        name = walk.holding(low, high)
        while name is not None and name != "end":
            signs += name
            walk.step(name)
            name = walk.holding(low, high)
        if name == "end":
            told.append((signs, place))
            signs, walk, row = "", Walk(model), []
    return told, (signs, len(row))


def cut_into(bits, size):
    return [bits[first:first + size] for first in range(0, len(bits), size)]


def rows_within(low, high, length):
    """All rows of that length whose part lies within, the least first."""
    rows = []
    for row in product((0, 1), repeat=length):
        first, last = part_of(row)
        if low <= first and last <= high:
            rows.append(list(row))
    return rows
