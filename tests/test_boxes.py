"""Points 13 and 15: bits put into numbers of eight bits, and taken out."""

import unittest
from itertools import product

from sharepress.boxes import boxed, unboxed
from sharepress.errors import NoBit, NoBox, PressError


def rows_up_to(length):
    return [list(row) for k in range(length + 1) for row in product((0, 1), repeat=k)]


def boxed_by_texts(bits):
    """The numbers, reckoned apart from the program."""
    text = "".join(str(bit) for bit in bits)
    boxes = [text[first:first + 8] for first in range(0, len(text), 8)]
    return [len(boxes[-1]) if boxes else 0] + [int(box.ljust(8, "0"), 2) for box in boxes]


NO_BOXES = {
    "none at all": [],
    "a first one below 0": [-1],
    "a first one below 0, with a further one": [-1, 0],
    "a first one above 8": [9],
    "a first one above 8, with a further one": [9, 0],
    "a first one of a hundred figures": [10 ** 99, 0],
    "0 where one follows": [0, 0],
    "0 where several follow": [0, 1, 2],
    "1 where none follows": [1],
    "8 where none follows": [8],
    "a further one below 0": [8, -1],
    "a further one below 0, not the last": [8, -1, 255],
    "a further one above 255": [8, 256],
    "a further one above 255, not the last": [1, 256, 128],
    "a further one of a hundred figures": [8, 10 ** 99],
    "a further one of a hundred figures below 0": [8, -10 ** 99],
    "a one just behind the bits": [1, 64],
    "a one as the very last": [1, 1],
    "a one behind seven bits": [7, 1],
    "a one behind the bits of the last": [4, 255, 248],
    "all ones": [3, 255],
}


class Boxed(unittest.TestCase):
    def test_the_very_numbers(self):
        for bits, numbers in (
            ([], [0]),
            ([0], [1, 0]),
            ([1], [1, 128]),
            ([0, 1], [2, 64]),
            ([1, 0, 1], [3, 160]),
            ([0, 0, 0, 0, 0, 0, 0, 1], [8, 1]),
            ([1] * 8, [8, 255]),
            ([1] * 9, [1, 255, 128]),
            ([0] * 16, [8, 0, 0]),
            ([0] * 17, [1, 0, 0, 0]),
            ([0] * 8 + [1] * 7, [7, 0, 254]),
        ):
            with self.subTest(bits=bits):
                self.assertEqual(boxed(bits), numbers)
                self.assertEqual(unboxed(numbers), bits)

    def test_all_rows_by_a_second_reckoning_and_back(self):
        for row in rows_up_to(11):
            with self.subTest(bits=row):
                numbers = boxed(row)
                self.assertEqual(numbers, boxed_by_texts(row))
                self.assertEqual(unboxed(numbers), row)

    def test_other_numbers_are_no_bits(self):
        for bits in ([2], [-1], [0, 1, 2], [2, 0], [1] * 8 + [256], [10 ** 99]):
            with self.subTest(bits=bits):
                with self.assertRaises(NoBit):
                    boxed(bits)

    def test_ten_thousand_bits_and_beyond(self):
        for length in (9999, 10000, 10001, 12345):
            bits = [place * place // 7 % 2 for place in range(length)]
            self.assertEqual(boxed(bits), boxed_by_texts(bits))
            self.assertEqual(unboxed(boxed(bits)), bits)

    def test_the_bits_stay_and_the_list_is_new(self):
        for bits in ([], [1, 0, 1]):
            kept = list(bits)
            boxed(bits).append(7)
            self.assertEqual(bits, kept)
            self.assertEqual(boxed(bits), boxed_by_texts(kept))
            self.assertIs(type(boxed(bits)), list)


class Unboxed(unittest.TestCase):
    def test_each_way_is_refused(self):
        for way, numbers in NO_BOXES.items():
            with self.subTest(way=way):
                with self.assertRaises(NoBox):
                    unboxed(numbers)

    def test_short_lists_are_those_boxed_or_refused(self):
        fitting = {tuple(boxed(row)) for row in rows_up_to(8)}
        for first in range(-2, 11):
            for rest in [[]] + [[number] for number in range(-2, 259)]:
                numbers = [first] + rest
                with self.subTest(numbers=numbers):
                    if tuple(numbers) in fitting:
                        self.assertEqual(boxed(unboxed(numbers)), numbers)
                    else:
                        with self.assertRaises(NoBox):
                            unboxed(numbers)

    def test_ones_are_refused_in_the_last_number_alone(self):
        self.assertEqual(unboxed([1, 255, 128]), [1] * 9)
        with self.assertRaises(NoBox):
            unboxed([1, 128, 255])

    def test_the_refusals_are_press_errors(self):
        with self.assertRaises(PressError):
            unboxed([])
        with self.assertRaises(PressError):
            boxed([2])

    def test_the_numbers_stay_and_the_list_is_new(self):
        for numbers in ([0], [3, 160], [1, 255, 128]):
            kept = list(numbers)
            unboxed(numbers).append(7)
            self.assertEqual(numbers, kept)
            self.assertEqual(boxed(unboxed(numbers)), kept)
            self.assertIs(type(unboxed(numbers)), list)


if __name__ == "__main__":
    unittest.main()
