"""Points 8 to 10: rows of bits, and rows one behind the other."""

import unittest
from itertools import permutations

from sharepress.pressing import all_pressed, pressed
from sharepress.ranges import span_ended
from tests.helpers import edges_by_fractions, known, learnt, rows_within, small_models, texts_up_to

LONGEST_SEARCHED = 9


class OneText(unittest.TestCase):
    def test_the_very_bits(self):
        self.assertEqual(pressed(known(), ""), [1, 1])
        self.assertEqual(pressed(known(), "a"), [0, 1, 1])
        self.assertEqual(pressed(known(), "b"), [1, 0, 1, 1])
        self.assertEqual(pressed(known(), "ab"), [0, 1, 0, 1, 1])
        self.assertEqual(pressed(learnt(), ""), [1, 1])
        self.assertEqual(pressed(learnt(), "a"), [0, 1, 0, 0])
        self.assertEqual(pressed(("known", [("a", 1)], 1), ""), [1])
        self.assertEqual(pressed(("known", [("a", 1)], 1), "aaa"), [0, 0, 0, 1])

    def test_noughts_stand_ahead(self):
        self.assertEqual(pressed(("known", [("a", 1), ("b", 1)], 2), "aaa"), [0, 0, 0, 0, 0, 0, 1])

    def test_the_bits_are_a_list(self):
        self.assertIs(type(pressed(known(), "")), list)

    def test_shortest_and_least_by_a_search_through_all_rows(self):
        searched, several = 0, 0
        for model in small_models():
            for text in texts_up_to(model, 3):
                row = pressed(model, text)
                if len(row) > LONGEST_SEARCHED:
                    continue
                low, high = edges_by_fractions(model, text)
                with self.subTest(model=model, text=text):
                    for length in range(len(row)):
                        self.assertEqual(rows_within(low, high, length), [])
                    fitting = rows_within(low, high, len(row))
                    self.assertEqual(row, fitting[0])
                    searched += 1
                    several += len(fitting) > 1
        # Both are asked for, or the search would show nothing.
        self.assertGreater(searched, 100)
        self.assertGreater(several, 5)

    def test_the_bounds_of_the_length(self):
        for model in small_models():
            for text in texts_up_to(model, 5):
                with self.subTest(model=model, text=text):
                    low, wide, whole = span_ended(model, text)
                    p = 2 ** len(pressed(model, text))
                    self.assertGreaterEqual(p * wide, whole)
                    self.assertLess(p * wide, 4 * whole)

    def test_the_same_again(self):
        model = learnt()
        first = pressed(model, "abba")
        pressed(model, "bbbb")
        self.assertEqual(pressed(model, "abba"), first)


class SeveralTexts(unittest.TestCase):
    def test_no_row_begins_another_nor_is_the_same(self):
        for model in small_models():
            rows = {text: pressed(model, text) for text in texts_up_to(model, 3)}
            for one, other in permutations(rows, 2):
                with self.subTest(model=model, one=one, other=other):
                    self.assertNotEqual(rows[other][:len(rows[one])], rows[one])

    def test_of_no_texts_there_are_no_bits(self):
        self.assertEqual(all_pressed(known(), []), [])
        self.assertEqual(all_pressed(learnt(), []), [])

    def test_the_very_bits(self):
        self.assertEqual(all_pressed(known(), ["b", "", "a"]), [1, 0, 1, 1, 1, 1, 0, 1, 1])
        self.assertEqual(all_pressed(learnt(), ["a", "a", ""]), [0, 1, 0, 0, 0, 1, 0, 0, 1, 1])

    def test_the_rows_stand_one_behind_the_other(self):
        for model in small_models():
            texts = texts_up_to(model, 2)
            for row in (texts, texts[::-1], texts[:1], texts + texts):
                with self.subTest(model=model, texts=row):
                    bits = [bit for text in row for bit in pressed(model, text)]
                    self.assertEqual(all_pressed(model, row), bits)

    def test_the_bits_are_a_list(self):
        self.assertIs(type(all_pressed(known(), [])), list)
        self.assertIs(type(all_pressed(known(), ["a"])), list)


if __name__ == "__main__":
    unittest.main()
