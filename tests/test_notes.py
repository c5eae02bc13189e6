"""Point 16: models written as lines, and read from them."""

import unittest

from sharepress.errors import NoLine, PressError
from sharepress.notes import read_model, shown
from tests.helpers import ALPHABET, small_models
from tests.test_models import MODELS_AT_THE_EDGE, NO_MODELS

MOST = 10 ** 20 - 1

NO_LINES = {
    "none at all": [],
    "the empty line alone": [""],
    "the kind alone": ["known"],
    "no sign": ["known 1"],
    "no sign, learnt": ["learnt 1"],
    "another kind": ["even 1", "a 1"],
    "a kind in capitals": ["Known 1", "a 1"],
    "no kind": [" 1", "a 1"],
    "a number alone": ["1", "a 1"],
    "two numbers": ["known 1 1", "a 1"],
    "the lines the other way round": ["a 1", "known 1"],
    "the kind twice": ["known 1", "known 1", "a 1"],
    "a sign twice": ["known 1", "a 1", "b 1", "a 1"],
    "a capital": ["known 1", "A 1"],
    "two letters": ["known 2", "ab 1"],
    "what is no letter": ["known 1", "{ 1"],
    "a figure as a sign": ["known 1", "1 1"],
    "a blank as a sign": ["known 1", "  1"],
    "a letter of another alphabet": ["known 1", "\u00e4 1"],
    "one more than all others": ["known 1", "a 2"],
    "one more than all others, learnt": ["learnt 1", "b 3", "a 5"],
}

# Each of these in the place of a line's blank and share.
NO_SHARES = ("", " ", " 0", " 01", " 00", "  1", " -1", " +1", " 1 ", " 1\n", "\t1", " 1.0", " 1_0", " 0x1", " a",
             " 1a", "1", " \u0661", " \u00b2", " 1 1", ",1", " 1\t", " 1\r", "\u00a01", " 1\x00")


class Shown(unittest.TestCase):
    def test_the_very_lines(self):
        for model, lines in (
            (("known", [("a", 2), ("b", 1)], 1), ["known 1", "a 2", "b 1"]),
            (("learnt", [("z", 10), ("a", 20)], 305), ["learnt 305", "z 10", "a 20"]),
            (("known", [("q", MOST)], MOST), ["known 99999999999999999999", "q 99999999999999999999"]),
        ):
            with self.subTest(model=model):
                self.assertEqual(shown(model), lines)
                self.assertEqual(read_model(lines), model)

    def test_both_ways(self):
        wide = ("learnt", [(sign, MOST - place) for place, sign in enumerate(ALPHABET)], MOST)
        beyond = ("known", [("a", 10 ** 100), ("b", 10 ** 100)], 10 ** 99)
        for model in small_models() + MODELS_AT_THE_EDGE + [wide, beyond]:
            with self.subTest(model=model):
                lines = shown(model)
                self.assertEqual(len(lines), 1 + len(model[1]))
                self.assertEqual(read_model(lines), model)
                self.assertEqual(shown(read_model(lines)), lines)

    def test_the_kinds(self):
        model = small_models()[0]
        self.assertIs(type(shown(model)), list)
        again = read_model(shown(model))
        self.assertIs(type(again), tuple)
        self.assertIs(type(again[1]), list)
        self.assertIs(type(again[1][0]), tuple)
        self.assertIs(type(again[1][0][1]), int)

    def test_the_lists_are_new(self):
        model = small_models()[0]
        lines = shown(model)
        kept = list(lines)
        lines.append("c 1")
        self.assertEqual(shown(model), kept)
        read_model(kept)[1].clear()
        self.assertEqual(read_model(kept), model)
        self.assertEqual(kept, shown(model))


class NoModelInLines(unittest.TestCase):
    def test_each_way_is_refused(self):
        for way, lines in NO_LINES.items():
            with self.subTest(way=way):
                with self.assertRaises(NoLine):
                    read_model(lines)

    def test_a_line_that_is_not_so(self):
        for wrong in NO_SHARES:
            for lines in (
                ["known" + wrong, "a 1"],
                ["known 5", "a" + wrong],
                ["known 5", "a" + wrong, "b 1"],
                ["learnt 5", "b 1", "a" + wrong],
            ):
                with self.subTest(lines=lines):
                    with self.assertRaises(NoLine):
                        read_model(lines)

    def test_lines_ahead_between_and_behind(self):
        lines = ["known 5", "a 1", "b 1"]
        self.assertEqual(read_model(lines), ("known", [("a", 1), ("b", 1)], 5))
        for place in range(4):
            for wrong in ("", " ", "a", "c", "c 0", " c 1", "\n", "# c 1"):
                with self.subTest(place=place, wrong=wrong):
                    with self.assertRaises(NoLine):
                        read_model(lines[:place] + [wrong] + lines[place:])

    def test_what_is_no_model(self):
        for way, (kind, shares, end) in NO_MODELS.items():
            lines = [f"{kind} {end}"] + [f"{sign} {share}" for sign, share in shares]
            with self.subTest(way=way):
                with self.assertRaises(NoLine):
                    read_model(lines)

    def test_the_refusal_is_a_press_error(self):
        with self.assertRaises(PressError):
            read_model([])

    def test_the_lines_stay(self):
        lines = ["known 1", "a 2"]
        with self.assertRaises(NoLine):
            read_model(lines)
        self.assertEqual(lines, ["known 1", "a 2"])


if __name__ == "__main__":
    unittest.main()
