"""Point 1: the sizes that the document names work, and exactly."""

import unittest

from sharepress.pressing import all_pressed, pressed
from sharepress.ranges import span_begun, span_ended
from sharepress.reading import read
from tests.helpers import ALPHABET, cut_into, edges, edges_by_fractions, part_of, read_by_fractions

LONG_TEXT = (ALPHABET * 8)[:200]
MOST = 10 ** 20 - 1


def wide_model(kind):
    return (kind, [(sign, MOST - place) for place, sign in enumerate(ALPHABET)], MOST)


def rare_model(kind):
    return (kind, [("a", MOST), ("b", MOST), ("c", 1)], 1)


def odd_model(kind):
    return (kind, [(sign, 3 ** place + 1) for place, sign in enumerate(ALPHABET)], 3 ** 26)


class Sizes(unittest.TestCase):
    def held(self, model, text):
        low, high = edges_by_fractions(model, text)
        self.assertEqual(edges(span_ended(model, text)), (low, high))
        row = pressed(model, text)
        first, last = part_of(row)
        self.assertTrue(low <= first and last <= high)
        # One part sooner would begin ahead of the range, so this one is the least.
        self.assertLess(first - (last - first), low)
        # With parts twice as wide, the first that begins within ends beyond.
        double = 2 * (last - first)
        self.assertGreater((-(-low // double) + 1) * double, high)

    def test_long_texts_and_shares_of_twenty_figures(self):
        for kind in ("known", "learnt"):
            for make in (wide_model, rare_model, odd_model):
                for text in (LONG_TEXT, "a" * 200, "c" * 200, "abc" * 66 + "ab", "cab", ""):
                    if make is rare_model and text == LONG_TEXT:
                        continue
                    with self.subTest(kind=kind, model=make, text=text):
                        self.held(make(kind), text)

    def test_the_very_numbers_of_a_long_text(self):
        total = 2 * MOST + 2
        low, wide, whole = span_begun(rare_model("known"), "c" * 200)
        self.assertEqual((wide, whole), (1, total ** 200))
        self.assertEqual(low, sum(2 * MOST * total ** place for place in range(200)))
        self.assertEqual(span_begun(rare_model("known"), "a" * 200), (0, MOST ** 200, total ** 200))

    def test_somewhat_beyond_the_sizes(self):
        model = ("learnt", [("a", 10 ** 30), ("b", 10 ** 30)], 10 ** 25)
        self.held(model, "ab" * 150)

    def test_a_share_of_twenty_figures_learns_by_one(self):
        model = ("learnt", [("a", MOST - 1), ("b", MOST)], 1)
        total = 2 * MOST
        self.assertEqual(span_begun(model, "aa"), (0, (MOST - 1) * MOST, total * (total + 1)))
        self.assertEqual(span_begun(model, "bb"), (
            (MOST - 1) * total + MOST * (MOST - 1), MOST * MOST, total * total))

    def test_a_thousand_texts(self):
        model = wide_model("learnt")
        texts = [LONG_TEXT[place % 26:] for place in range(1000)]
        bits = all_pressed(model, texts)
        rows = [pressed(model, text) for text in texts[:26]]
        self.assertEqual(bits, [bit for place in range(1000) for bit in rows[place % 26]])


def mixed_bits(length):
    """Bits without an order that a model could follow, the same each time."""
    bits, number = [], 1
    for place in range(length):
        number = number * 1103515245 % 2147483647
        bits.append(number >> 13 & 1)
    return bits


class ReadingSizes(unittest.TestCase):
    def held(self, model, bits):
        expected = read_by_fractions(model, bits)
        self.assertEqual(read(model, [bits]), expected)
        self.assertEqual(read(model, cut_into(bits, 1)), expected)

    def test_long_texts_and_shares_of_twenty_figures(self):
        for kind in ("known", "learnt"):
            for make in (wide_model, rare_model, odd_model):
                texts = ["a" * 200, "c" * 200, "abc" * 66 + "ab", "cab", ""]
                if make is not rare_model:
                    texts.append(LONG_TEXT)
                with self.subTest(kind=kind, model=make):
                    bits = all_pressed(make(kind), texts)
                    for size in (1, 97, len(bits)):
                        told, left = read(make(kind), cut_into(bits, size))
                        self.assertEqual([text for text, place in told], texts)
                        self.assertEqual(told[-1][1], len(bits) - 1)
                        self.assertEqual(left, ("", 0))

    def test_any_bits_by_a_second_reckoning(self):
        for kind in ("known", "learnt"):
            for make in (wide_model, rare_model, odd_model):
                for bits in (mixed_bits(300), [0] * 150, [0, 1] * 100, [1] * 150, [0, 0, 1] * 60):
                    with self.subTest(kind=kind, model=make, bits=bits[:3]):
                        self.held(make(kind), bits)

    def test_a_thousand_texts(self):
        model = ("learnt", [("a", 2), ("b", 1), ("c", 3)], 5)
        texts = ["abcacb"[place % 6:] * (place % 4) for place in range(1000)]
        told, left = read(model, cut_into(all_pressed(model, texts), 64))
        self.assertEqual([text for text, place in told], texts)
        self.assertEqual(left, ("", 0))

    def test_ten_thousand_bits_for_one_text(self):
        for model in (("known", [("a", 1)], 1), ("learnt", [("b", 3), ("c", 1)], 2)):
            first = model[1][0][0]
            told, left = read(model, [[0] * 10000])
            self.assertEqual((told, left), ([], (first * 10000, 10000)))
        self.assertEqual(read(rare_model("known"), [[0] * 10000])[1], ("a" * 9999, 10000))
        # Binary 0.0101.. is the edge of a third, and nothing is ever certain.
        self.assertEqual(read(("known", [("a", 1), ("b", 1)], 1), cut_into([0, 1] * 5000, 1)), ([], ("", 10000)))

    def test_ten_thousand_bits_of_many_texts(self):
        model = ("known", [("a", 1)], 1)
        bits = mixed_bits(10000)
        told, left = read(model, cut_into(bits, 7))
        # Here each text is some noughts and a one.
        self.assertEqual([place for text, place in told], [place for place, bit in enumerate(bits) if bit == 1])
        self.assertEqual("".join(text + "b" for text, place in told) + left[0], "".join("ab"[bit] for bit in bits))

    def test_somewhat_beyond_the_sizes(self):
        model = ("learnt", [("a", 10 ** 30), ("b", 10 ** 30)], 10 ** 25)
        texts = ["ab" * 150, "b" * 300, "a"]
        told, left = read(model, [all_pressed(model, texts)])
        self.assertEqual([text for text, place in told], texts)
        self.assertEqual(read(("known", [("a", 1)], 1), [[0] * 12000 + [1]]), ([("a" * 12000, 12000)], ("", 0)))


if __name__ == "__main__":
    unittest.main()
