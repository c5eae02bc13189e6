"""Points 2 and 3: what is a model, and which texts it has shares for."""

import unittest

from sharepress.errors import BadModel, NoShare, PressError
from sharepress.pressing import all_pressed
from sharepress.ranges import span_ended
from sharepress.reading import read
from tests.helpers import TAKERS, TEXT_TAKERS, known, learnt

NO_MODELS = {
    "another kind": ("even", [("a", 1)], 1),
    "no kind": ("", [("a", 1)], 1),
    "a kind in capitals": ("Known", [("a", 1)], 1),
    "a kind with a blank": ("learnt ", [("a", 1)], 1),
    "the beginning of a kind": ("know", [("a", 1)], 1),
    "no sign, known": ("known", [], 1),
    "no sign, learnt": ("learnt", [], 1),
    "the empty text as a sign": ("known", [("", 1)], 1),
    "two letters as a sign": ("known", [("a", 1), ("bc", 1)], 1),
    "a capital as a sign": ("known", [("A", 1)], 1),
    "a figure as a sign": ("learnt", [("a", 1), ("1", 1)], 1),
    "a blank as a sign": ("known", [(" ", 1)], 1),
    "what lies ahead of a": ("known", [("`", 1)], 1),
    "what lies behind z": ("known", [("{", 1)], 1),
    "a letter of another alphabet": ("known", [("\u00e4", 1)], 1),
    "a sign twice": ("known", [("a", 1), ("b", 1), ("a", 1)], 1),
    "a sign twice on end": ("learnt", [("a", 1), ("a", 2)], 3),
    "a share of 0": ("known", [("a", 1), ("b", 0)], 1),
    "a first share of 0": ("learnt", [("a", 0)], 1),
    "a share below 0": ("known", [("a", 2), ("b", -1)], 3),
    "an end's share of 0": ("known", [("a", 1), ("b", 1)], 0),
    "an end's share below 0": ("learnt", [("a", 3), ("b", 3)], -1),
    "one more than all others": ("known", [("a", 5), ("b", 3)], 1),
    "one more than all others, learnt": ("learnt", [("a", 5), ("b", 3)], 1),
    "one more than all others, the last": ("known", [("b", 3), ("c", 1), ("a", 6)], 1),
    "one more than the end alone": ("known", [("a", 2)], 1),
    "one more of twenty figures": ("known", [("a", 10 ** 19 + 2), ("b", 10 ** 19)], 1),
}

MODELS_AT_THE_EDGE = [
    ("known", [("a", 4), ("b", 3)], 1),
    ("learnt", [("a", 4), ("b", 3)], 1),
    ("known", [("b", 3), ("c", 1), ("a", 5)], 1),
    ("known", [("a", 1)], 1),
    ("learnt", [("z", 1), ("a", 1)], 1),
    ("known", [("a", 10 ** 19 + 1), ("b", 10 ** 19)], 1),
    ("known", [("a", 1)], 1000),
]


class NoModel(unittest.TestCase):
    def test_each_way_is_refused_by_each_function(self):
        for way, model in NO_MODELS.items():
            for name, taker in TAKERS.items():
                for text in ("", "a"):
                    with self.subTest(way=way, function=name, text=text):
                        with self.assertRaises(BadModel):
                            taker(model, text)

    def test_it_is_refused_ahead_of_no_share(self):
        for way, model in NO_MODELS.items():
            for name, taker in TAKERS.items():
                for text in ("q", "aq", "A"):
                    with self.subTest(way=way, function=name, text=text):
                        with self.assertRaises(BadModel):
                            taker(model, text)

    def test_it_is_refused_with_no_texts_too(self):
        for way, model in NO_MODELS.items():
            with self.subTest(way=way):
                with self.assertRaises(BadModel):
                    all_pressed(model, [])

    def test_it_is_refused_with_no_pieces_and_ahead_of_no_bit(self):
        for way, model in NO_MODELS.items():
            for pieces in ([], [[]], [[2]], [[0, 1], [-1]]):
                with self.subTest(way=way, pieces=pieces):
                    with self.assertRaises(BadModel):
                        read(model, pieces)

    def test_the_refusal_is_a_press_error(self):
        for name, taker in TAKERS.items():
            with self.subTest(function=name):
                with self.assertRaises(PressError):
                    taker(("known", [], 1), "")

    def test_a_share_as_much_as_all_others_is_no_fault(self):
        for model in MODELS_AT_THE_EDGE:
            for name, taker in TAKERS.items():
                with self.subTest(model=model, function=name):
                    taker(model, model[1][0][0])

    def test_the_end_may_have_more_than_all_signs(self):
        self.assertEqual(span_ended(("known", [("a", 1)], 1000), ""), (1, 1000, 1001))


class NoShareForASign(unittest.TestCase):
    def test_a_sign_that_the_model_does_not_have(self):
        for model in (known(), learnt()):
            for name, taker in TEXT_TAKERS.items():
                for text in ("c", "abc", "cab", "aca", "A", "a b", " ", "\u00e4", "1", "a\n"):
                    with self.subTest(model=model, function=name, text=text):
                        with self.assertRaises(NoShare):
                            taker(model, text)

    def test_the_refusal_is_a_press_error(self):
        for name, taker in TEXT_TAKERS.items():
            with self.subTest(function=name):
                with self.assertRaises(PressError):
                    taker(known(), "c")

    def test_one_of_several_texts(self):
        for texts in (["c", "a"], ["a", "c"], ["", "a", "bc", "b"]):
            with self.subTest(texts=texts):
                with self.assertRaises(NoShare):
                    all_pressed(known(), texts)

    def test_the_empty_text_is_a_text(self):
        for model in (known(), learnt()):
            for name, taker in TEXT_TAKERS.items():
                with self.subTest(model=model, function=name):
                    taker(model, "")


if __name__ == "__main__":
    unittest.main()
