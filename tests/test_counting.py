"""Point 14: models counted from texts, and even models."""

import unittest

from sharepress.counting import counted, evened
from sharepress.errors import NoShare, PressError
from sharepress.pressing import all_pressed
from sharepress.ranges import span_begun
from sharepress.reading import read
from tests.helpers import ALPHABET, texts_up_to


class Counted(unittest.TestCase):
    def test_the_very_models(self):
        for texts, model in (
            (["ab"], ("known", [("a", 1), ("b", 1)], 1)),
            (["banana", "nab"], ("known", [("a", 4), ("b", 2), ("n", 3)], 2)),
            (["cab", "", "c"], ("known", [("a", 1), ("b", 1), ("c", 2)], 3)),
            (["z", "y", "x"], ("known", [("x", 1), ("y", 1), ("z", 1)], 3)),
            (["", "", "a"], ("known", [("a", 1)], 3)),
            ([ALPHABET[::-1]], ("known", [(sign, 1) for sign in ALPHABET], 1)),
        ):
            with self.subTest(texts=texts):
                self.assertEqual(counted(texts), model)

    def test_a_share_that_is_cut(self):
        for texts, model in (
            (["aaaaa"], ("known", [("a", 1)], 1)),
            (["aa"], ("known", [("a", 1)], 1)),
            (["a"], ("known", [("a", 1)], 1)),
            (["aaaaab"], ("known", [("a", 2), ("b", 1)], 1)),
            (["bbbbbbbbba", "ac"], ("known", [("a", 2), ("b", 5), ("c", 1)], 2)),
            (["zzzz", "", "a"], ("known", [("a", 1), ("z", 4)], 3)),
            (["zzzzz", "", "a"], ("known", [("a", 1), ("z", 4)], 3)),
            (["zzz", "", "a"], ("known", [("a", 1), ("z", 3)], 3)),
        ):
            with self.subTest(texts=texts):
                self.assertEqual(counted(texts), model)

    def test_the_end_is_never_cut(self):
        self.assertEqual(counted(["a"] + [""] * 999), ("known", [("a", 1)], 1000))

    def test_other_signs_are_refused(self):
        for text in ("A", "a b", "a1", " ", "\u00e4", "a\n", "`", "{", "-", "\u0430"):
            for texts in ([text], ["ab", text], [text, "ab"], ["", text]):
                with self.subTest(texts=texts):
                    with self.assertRaises(NoShare):
                        counted(texts)

    def test_texts_without_any_sign_are_refused(self):
        for texts in ([], [""], ["", "", ""]):
            with self.subTest(texts=texts):
                with self.assertRaises(NoShare):
                    counted(texts)

    def test_the_refusal_is_a_press_error(self):
        with self.assertRaises(PressError):
            counted([])

    def test_it_is_a_model_that_presses_and_reads_the_texts(self):
        small = ("known", [("a", 1), ("b", 1), ("c", 1)], 1)
        for texts in (["banana", "nab"], ["aaaaaaaab"], ["", "a", ""], texts_up_to(small, 3), ["a" * 200] * 3):
            model = counted(texts)
            with self.subTest(texts=texts):
                told, left = read(model, [all_pressed(model, texts)])
                self.assertEqual([text for text, place in told], texts)

    def test_the_kinds_and_the_texts_stay(self):
        texts = ["banana", "nab"]
        model = counted(texts)
        self.assertIs(type(model), tuple)
        self.assertIs(type(model[1]), list)
        self.assertIs(type(model[1][0]), tuple)
        self.assertEqual(texts, ["banana", "nab"])

    def test_a_thousand_texts_of_two_hundred_signs(self):
        texts = [(ALPHABET * 9)[place % 26:place % 26 + 200] for place in range(1000)]
        kind, shares, end = counted(texts)
        self.assertEqual((kind, end), ("known", 1000))
        self.assertEqual([sign for sign, share in shares], list(ALPHABET))
        self.assertEqual(sum(share for sign, share in shares), 200000)
        self.assertEqual(dict(shares)["q"], sum(text.count("q") for text in texts))


class Evened(unittest.TestCase):
    def test_the_very_models(self):
        self.assertEqual(evened("a"), ("learnt", [("a", 1)], 1))
        self.assertEqual(evened("ab"), ("learnt", [("a", 1), ("b", 1)], 1))
        self.assertEqual(evened("zam"), ("learnt", [("z", 1), ("a", 1), ("m", 1)], 1))
        self.assertEqual(evened(ALPHABET), ("learnt", [(sign, 1) for sign in ALPHABET], 1))

    def test_each_sign_once(self):
        self.assertEqual(evened("banana"), ("learnt", [("b", 1), ("a", 1), ("n", 1)], 1))

    def test_it_is_a_model(self):
        self.assertEqual(span_begun(evened("ba"), "a"), (1, 1, 3))
        self.assertEqual(read(evened("ba"), [all_pressed(evened("ba"), ["abba"])])[0][0][0], "abba")

    def test_a_new_list_each_time(self):
        evened("ab")[1].clear()
        self.assertEqual(evened("ab"), ("learnt", [("a", 1), ("b", 1)], 1))


if __name__ == "__main__":
    unittest.main()
