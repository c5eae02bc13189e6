"""Point 1: the sizes that the document names work, and exactly."""

import unittest

from sharepress.pressing import all_pressed, pressed
from sharepress.ranges import span_begun, span_ended
from tests.helpers import ALPHABET, edges, edges_by_fractions, part_of

LONG_TEXT = (ALPHABET * 8)[:200]
MOST = 10 ** 20 - 1


def wide_model(kind):
    return (kind, [(sign, MOST - place) for place, sign in enumerate(ALPHABET)], MOST)


def rare_model(kind):
    return (kind, [("a", MOST), ("b", MOST), ("c", 1)], 1)


def odd_model(kind):
    return (kind, [(sign, 3 ** place + 1) for place, sign in enumerate(ALPHABET)], 3 ** 26)


class Sizes(unittest.TestCase):
    def held(self, model, text):
        low, high = edges_by_fractions(model, text)
        self.assertEqual(edges(span_ended(model, text)), (low, high))
        row = pressed(model, text)
        first, last = part_of(row)
        self.assertTrue(low <= first and last <= high)
        # One part sooner would begin ahead of the range, so this one is the least.
        self.assertLess(first - (last - first), low)
        # With parts twice as wide, the first that begins within ends beyond.
        double = 2 * (last - first)
        self.assertGreater((-(-low // double) + 1) * double, high)

    def test_long_texts_and_shares_of_twenty_figures(self):
        for kind in ("known", "learnt"):
            for make in (wide_model, rare_model, odd_model):
                for text in (LONG_TEXT, "a" * 200, "c" * 200, "abc" * 66 + "ab", "cab", ""):
                    if make is rare_model and text == LONG_TEXT:
                        continue
                    with self.subTest(kind=kind, model=make, text=text):
                        self.held(make(kind), text)

    def test_the_very_numbers_of_a_long_text(self):
        total = 2 * MOST + 2
        low, wide, whole = span_begun(rare_model("known"), "c" * 200)
        self.assertEqual((wide, whole), (1, total ** 200))
        self.assertEqual(low, sum(2 * MOST * total ** place for place in range(200)))
        self.assertEqual(span_begun(rare_model("known"), "a" * 200), (0, MOST ** 200, total ** 200))

    def test_somewhat_beyond_the_sizes(self):
        model = ("learnt", [("a", 10 ** 30), ("b", 10 ** 30)], 10 ** 25)
        self.held(model, "ab" * 150)

    def test_a_share_of_twenty_figures_learns_by_one(self):
        model = ("learnt", [("a", MOST - 1), ("b", MOST)], 1)
        total = 2 * MOST
        self.assertEqual(span_begun(model, "aa"), (0, (MOST - 1) * MOST, total * (total + 1)))
        self.assertEqual(span_begun(model, "bb"), (
            (MOST - 1) * total + MOST * (MOST - 1), MOST * MOST, total * total))

    def test_a_thousand_texts(self):
        model = wide_model("learnt")
        texts = [LONG_TEXT[place % 26:] for place in range(1000)]
        bits = all_pressed(model, texts)
        rows = [pressed(model, text) for text in texts[:26]]
        self.assertEqual(bits, [bit for place in range(1000) for bit in rows[place % 26]])


if __name__ == "__main__":
    unittest.main()
