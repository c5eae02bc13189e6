"""Point 1: nothing that is handed in is changed."""

import unittest

from sharepress.errors import BadModel, NoShare
from sharepress.pressing import all_pressed
from tests.helpers import TAKERS, TEXT_TAKERS, small_models

TEXTS = ["", "a", "aa", "aaaa"]


class Unchanged(unittest.TestCase):
    def held(self, model, call):
        shares = model[1]
        before = (model[0], list(shares), model[2])
        call()
        self.assertEqual(model, before)
        self.assertIs(model[1], shares)

    def test_the_model_and_its_list(self):
        for model in small_models():
            for name, taker in TAKERS.items():
                for text in TEXTS:
                    with self.subTest(model=model, function=name, text=text):
                        self.held(model, lambda: taker(model, text))

    def test_the_list_of_texts(self):
        for model in small_models():
            texts = list(TEXTS)
            with self.subTest(model=model):
                self.held(model, lambda: all_pressed(model, texts))
                self.assertEqual(texts, TEXTS)

    def test_where_it_is_refused(self):
        for model, text, error, takers in (
            (("learnt", [("a", 1), ("b", 1)], 1), "abq", NoShare, TEXT_TAKERS),
            (("learnt", [("b", 9), ("a", 1)], 1), "ab", BadModel, TAKERS),
        ):
            for name, taker in takers.items():
                with self.subTest(function=name, error=error):
                    def refused():
                        with self.assertRaises(error):
                            taker(model, text)
                    self.held(model, refused)

    def test_a_new_list_of_bits_each_time(self):
        model = small_models()[0]
        bits = all_pressed(model, TEXTS)
        before = list(bits)
        bits.append(7)
        self.assertEqual(all_pressed(model, TEXTS), before)


if __name__ == "__main__":
    unittest.main()
