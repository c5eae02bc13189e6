"""Points 4 to 7: how shares lie, known and learnt models, ranges."""

import unittest
from itertools import combinations

from sharepress.ranges import span_begun, span_ended
from tests.helpers import edges, edges_by_fractions, known, learnt, signs_of, small_models, texts_up_to


class TheVeryNumbers(unittest.TestCase):
    def test_the_empty_text(self):
        self.assertEqual(span_begun(known(), ""), (0, 1, 1))
        self.assertEqual(span_begun(learnt(), ""), (0, 1, 1))
        self.assertEqual(span_ended(known(), ""), (3, 1, 4))
        self.assertEqual(span_ended(learnt(), ""), (2, 1, 3))

    def test_a_known_model(self):
        self.assertEqual(span_begun(known(), "a"), (0, 2, 4))
        self.assertEqual(span_begun(known(), "b"), (2, 1, 4))
        self.assertEqual(span_begun(known(), "ab"), (4, 2, 16))
        self.assertEqual(span_begun(known(), "aaa"), (0, 8, 64))
        self.assertEqual(span_ended(known(), "a"), (6, 2, 16))
        self.assertEqual(span_ended(known(), "ab"), (22, 2, 64))
        self.assertEqual(span_ended(known(), "bb"), (43, 1, 64))

    def test_a_learnt_model(self):
        self.assertEqual(span_begun(learnt(), "a"), (0, 1, 3))
        self.assertEqual(span_begun(learnt(), "aa"), (0, 2, 12))
        self.assertEqual(span_begun(learnt(), "b"), (1, 1, 3))
        self.assertEqual(span_begun(learnt(), "ba"), (4, 1, 12))
        self.assertEqual(span_begun(learnt(), "bab"), (22, 2, 60))
        self.assertEqual(span_ended(learnt(), "a"), (3, 1, 12))
        self.assertEqual(span_ended(learnt(), "aaba"), (140, 4, 1440))

    def test_a_learnt_share_stays_at_all_others_together(self):
        self.assertEqual(span_begun(learnt(), "aaa"), (0, 4, 48))
        self.assertEqual(span_begun(learnt(), "aab"), (4, 2, 48))
        self.assertEqual(span_ended(learnt(), "aaa"), (12, 4, 192))
        half = ("learnt", [("a", 1)], 1)
        self.assertEqual(span_begun(half, "aaa"), (0, 1, 8))
        self.assertEqual(span_ended(half, "aaa"), (1, 1, 16))

    def test_a_learnt_share_that_stayed_grows_again_where_it_may(self):
        # Behind aab the shares are 2, 2 and 1, and behind aaba 3, 2 and 1.
        self.assertEqual(span_begun(learnt(), "aaba"), (20, 4, 240))
        self.assertEqual(span_begun(learnt(), "aabaa"), (120, 12, 1440))

    def test_the_order_of_the_list_and_not_of_the_alphabet(self):
        model = ("known", [("z", 3), ("a", 2), ("m", 1)], 4)
        self.assertEqual(span_begun(model, "z"), (0, 3, 10))
        self.assertEqual(span_begun(model, "a"), (3, 2, 10))
        self.assertEqual(span_begun(model, "m"), (5, 1, 10))
        self.assertEqual(span_ended(model, ""), (6, 4, 10))

    def test_a_range_is_a_tuple(self):
        for text in ("", "ab"):
            self.assertIs(type(span_begun(known(), text)), tuple)
            self.assertIs(type(span_ended(learnt(), text)), tuple)

    def test_each_text_begins_with_the_model_as_it_was_handed_in(self):
        model = learnt()
        self.assertEqual(span_ended(model, "aaba"), (140, 4, 1440))
        self.assertEqual(span_ended(model, "a"), (3, 1, 12))
        self.assertEqual(span_ended(model, "aaba"), (140, 4, 1440))


class HowRangesLie(unittest.TestCase):
    def test_they_are_those_of_a_second_reckoning(self):
        for model in small_models():
            for text in texts_up_to(model, 4):
                with self.subTest(model=model, text=text):
                    self.assertEqual(edges(span_ended(model, text)), edges_by_fractions(model, text))

    def test_the_signs_and_the_end_make_up_the_range_without_a_gap(self):
        for model in small_models():
            for text in texts_up_to(model, 3):
                with self.subTest(model=model, text=text):
                    spans = [span_begun(model, text + sign) for sign in signs_of(model)]
                    spans.append(span_ended(model, text))
                    low, high = edges(span_begun(model, text))
                    for span in spans:
                        first, last = edges(span)
                        self.assertEqual(first, low)
                        self.assertLess(first, last)
                        low = last
                    self.assertEqual(low, high)

    def test_two_ended_texts_have_no_number_in_common(self):
        for model in small_models():
            ranges = {text: edges(span_ended(model, text)) for text in texts_up_to(model, 3)}
            for one, other in combinations(ranges, 2):
                with self.subTest(model=model, one=one, other=other):
                    self.assertTrue(ranges[one][1] <= ranges[other][0] or ranges[other][1] <= ranges[one][0])

    def test_where_one_text_begins_the_other_too(self):
        for model in (known(), learnt()):
            for one, other in (("", "a"), ("a", "aa"), ("ab", "abb"), ("b", "babab")):
                with self.subTest(model=model, one=one, other=other):
                    # The end lies last, so the longer text lies ahead.
                    self.assertLessEqual(edges(span_ended(model, other))[1], edges(span_ended(model, one))[0])


if __name__ == "__main__":
    unittest.main()
