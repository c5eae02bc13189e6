"""Points 5, 11, 12 and 13: texts read from bits as they come."""

import unittest
from itertools import product

from sharepress.errors import NoBit, PressError
from sharepress.pressing import all_pressed, pressed
from sharepress.reading import begun, fed, open_text, read
from tests.helpers import cut_into, known, learnt, read_by_fractions, small_models, texts_up_to

LONGEST_ROW = 9


def told_in_order(model, texts):
    """The texts with the places of their last bits."""
    told, place = [], -1
    for text in texts:
        place += len(pressed(model, text))
        told.append((text, place))
    return told


def all_rows():
    return [list(row) for length in range(LONGEST_ROW + 1) for row in product((0, 1), repeat=length)]


class TheVeryTexts(unittest.TestCase):
    def test_ahead_of_all_bits_nothing_is_certain(self):
        for model in small_models():
            self.assertEqual(open_text(begun(model)), ("", 0))
            self.assertEqual(fed(begun(model), [])[1], [])
            self.assertEqual(read(model, []), ([], ("", 0)))
            self.assertEqual(read(model, [[], []]), ([], ("", 0)))

    def test_a_known_model(self):
        # Here a has the first half, b the quarter behind it, the end the last quarter.
        for bits, told, left in (
            ([0], [], ("a", 1)),
            ([1], [], ("", 1)),
            ([1, 0], [], ("b", 2)),
            ([1, 1], [("", 1)], ("", 0)),
            ([0, 0], [], ("aa", 2)),
            ([0, 1], [], ("a", 2)),
            ([0, 1, 0], [], ("ab", 3)),
            ([0, 1, 1], [("a", 2)], ("", 0)),
            ([1, 0, 1, 1], [("b", 3)], ("", 0)),
            ([1, 1, 0, 1, 1, 1, 1, 1, 0], [("", 1), ("a", 4), ("", 6)], ("b", 2)),
        ):
            with self.subTest(bits=bits):
                self.assertEqual(read(known(), [bits]), (told, left))

    def test_a_learnt_model(self):
        # At first a has the first third, b the second, the end the last.
        for bits, told, left in (
            ([0], [], ("", 1)),
            ([0, 0], [], ("a", 2)),
            ([0, 1], [], ("", 2)),
            ([0, 1, 0], [], ("", 3)),
            ([0, 1, 0, 0], [("a", 3)], ("", 0)),
            ([0, 1, 0, 1], [], ("", 4)),
            ([0, 0, 0], [], ("aa", 3)),
            ([0, 0, 0, 0], [], ("aaa", 4)),
            ([1, 1], [("", 1)], ("", 0)),
            ([0, 1, 0, 0, 0, 1, 0, 0, 1, 1, 0, 0], [("a", 3), ("a", 7), ("", 9)], ("a", 2)),
        ):
            with self.subTest(bits=bits):
                self.assertEqual(read(learnt(), [bits]), (told, left))

    def test_bits_that_no_text_is_pressed_into(self):
        # The empty text is pressed into 1 1; from 2/3 on there are other parts too.
        self.assertEqual(pressed(learnt(), ""), [1, 1])
        self.assertEqual(read(learnt(), [[1, 0, 1, 1]]), ([("", 3)], ("", 0)))
        self.assertEqual(read(learnt(), [[1, 0, 1, 0, 1, 1, 1, 1]]), ([("", 5), ("", 7)], ("", 0)))

    def test_bits_on_an_edge_make_nothing_certain(self):
        # Binary 0.0101.. is a third, the edge between a and b.
        self.assertEqual(read(learnt(), [[0, 1] * 50]), ([], ("", 100)))

    def test_an_end_with_more_than_half(self):
        model = ("known", [("a", 1)], 3)
        self.assertEqual(read(model, [[1, 1]]), ([("", 0), ("", 1)], ("", 0)))
        self.assertEqual(read(model, [[0]]), ([], ("", 1)))
        self.assertEqual(read(model, [[0, 1]]), ([("", 1)], ("", 0)))
        self.assertEqual(read(model, [[0, 0]]), ([], ("a", 2)))
        self.assertEqual(read(model, [[0, 0, 1]]), ([("a", 2)], ("", 0)))

    def test_signs_as_the_list_has_them(self):
        model = ("known", [("z", 2), ("a", 1), ("m", 1)], 4)
        self.assertEqual(read(model, [[0, 0]])[1], ("z", 2))
        self.assertEqual(read(model, [[0, 1, 0]])[1], ("a", 3))
        self.assertEqual(read(model, [[0, 1, 1]])[1], ("m", 3))
        self.assertEqual(read(model, [[1]])[0], [("", 0)])

    def test_the_kinds(self):
        state, told = fed(begun(known()), [1, 1, 0])
        self.assertIs(type(fed(state, [])), tuple)
        self.assertIs(type(told), list)
        self.assertIs(type(told[0]), tuple)
        self.assertIs(type(open_text(state)), tuple)
        self.assertIs(type(read(known(), [])), tuple)
        self.assertIs(type(read(known(), [])[0]), list)
        self.assertIs(type(read(known(), [])[1]), tuple)


class PressedTexts(unittest.TestCase):
    def test_each_text_is_told_at_its_last_bit(self):
        for model in small_models():
            for text in texts_up_to(model, 4):
                bits = pressed(model, text)
                with self.subTest(model=model, text=text):
                    self.assertEqual(read(model, [bits]), ([(text, len(bits) - 1)], ("", 0)))
                    told, left = read(model, [bits[:-1]])
                    self.assertEqual(told, [])
                    self.assertEqual(left[1], len(bits) - 1)
                    self.assertTrue(text.startswith(left[0]))

    def test_several_one_behind_the_other(self):
        for model in small_models():
            texts = texts_up_to(model, 3)
            for row in (texts, texts[::-1], texts[:1] * 5, texts[-1:] * 5):
                with self.subTest(model=model, texts=row):
                    bits = all_pressed(model, row)
                    self.assertEqual(read(model, [bits]), (told_in_order(model, row), ("", 0)))

    def test_pieces_of_any_size(self):
        for model in small_models():
            texts = texts_up_to(model, 2)
            bits = all_pressed(model, texts)
            for size in (1, 2, 3, 5, 7, 8, 11, len(bits) - 1, len(bits), len(bits) + 1):
                with self.subTest(model=model, size=size):
                    self.assertEqual(read(model, cut_into(bits, size)), (told_in_order(model, texts), ("", 0)))

    def test_empty_pieces_too(self):
        for model in small_models():
            texts = texts_up_to(model, 2)
            pieces = [[]]
            for piece in cut_into(all_pressed(model, texts), 3):
                pieces.extend([piece, [], []])
            with self.subTest(model=model):
                self.assertEqual(read(model, pieces), (told_in_order(model, texts), ("", 0)))

    def test_what_is_told_on_the_way(self):
        for model in small_models():
            texts = texts_up_to(model, 2)
            last = {place: text for text, place in told_in_order(model, texts)}
            state = begun(model)
            for place, bit in enumerate(all_pressed(model, texts)):
                state, told = fed(state, [bit])
                with self.subTest(model=model, place=place):
                    self.assertEqual(told, [(last[place], place)] if place in last else [])

    def test_each_text_begins_with_the_model_as_it_was_handed_in(self):
        model = learnt()
        one = pressed(model, "aabab")
        told, left = read(model, [one * 3 + pressed(model, "b")])
        self.assertEqual([text for text, place in told], ["aabab"] * 3 + ["b"])
        self.assertEqual([place for text, place in told][:3], [len(one) - 1, 2 * len(one) - 1, 3 * len(one) - 1])


class AnyBits(unittest.TestCase):
    def test_all_short_rows_by_a_second_reckoning(self):
        told_at_all, told_later = 0, 0
        for model in small_models():
            for row in all_rows():
                expected = read_by_fractions(model, row)
                with self.subTest(model=model, bits=row):
                    self.assertEqual(read(model, [row]), expected)
                told_at_all += len(expected[0]) > 0
                told_later += len(expected[0]) > 1
        # Both are asked for, or the rows would show nothing.
        self.assertGreater(told_at_all, 1000)
        self.assertGreater(told_later, 1000)

    def test_all_short_rows_bit_by_bit_and_in_pieces(self):
        for model in small_models():
            for row in all_rows():
                expected = read(model, [row])
                for size in (1, 2, 3):
                    with self.subTest(model=model, bits=row, size=size):
                        self.assertEqual(read(model, cut_into(row, size)), expected)

    def test_no_more_signs_are_certain_than_bits_were_read(self):
        as_many = 0
        for model in small_models():
            for row in all_rows():
                state, begin = begun(model), -1
                for bit in row:
                    state, told = fed(state, [bit])
                    signs, count = open_text(state)
                    for text, place in told:
                        self.assertLessEqual(len(text), place - begin)
                        begin = place
                    with self.subTest(model=model, bits=row):
                        self.assertLessEqual(len(signs), count)
                    as_many += len(signs) == count > 0
        self.assertGreater(as_many, 100)

    def test_a_text_told_is_pressed_into_no_more_bits_than_were_read(self):
        fewer = 0
        for model in small_models():
            for row in all_rows():
                begin = -1
                for text, place in read(model, [row])[0]:
                    with self.subTest(model=model, bits=row, text=text):
                        self.assertLessEqual(len(pressed(model, text)), place - begin)
                    fewer += len(pressed(model, text)) < place - begin
                    begin = place
        self.assertGreater(fewer, 100)

    def test_the_certain_signs_begin_what_is_told_later(self):
        for model in small_models():
            for text in texts_up_to(model, 3):
                state, before = begun(model), ""
                for bit in pressed(model, text)[:-1]:
                    state, told = fed(state, [bit])
                    signs, count = open_text(state)
                    with self.subTest(model=model, text=text):
                        self.assertEqual(told, [])
                        self.assertTrue(signs.startswith(before) and text.startswith(signs))
                    before = signs


class OtherNumbers(unittest.TestCase):
    WRONG = ([2], [-1], [10 ** 99], [-10 ** 99], [0, 1, 1, 2], [2, 0, 1, 1], [0, 3, 1], [1, 1, 1, 1, 1, 1, 256])

    def test_they_are_refused(self):
        for model in small_models():
            for bits in self.WRONG:
                for ahead in ([], [0], [0, 1, 1, 0]):
                    with self.subTest(model=model, bits=bits, ahead=ahead):
                        state, told = fed(begun(model), ahead)
                        with self.assertRaises(NoBit):
                            fed(state, bits)
                        with self.assertRaises(NoBit):
                            read(model, [ahead, bits])
                        with self.assertRaises(NoBit):
                            read(model, [bits, ahead])

    def test_the_refusal_is_a_press_error(self):
        with self.assertRaises(PressError):
            fed(begun(known()), [2])
        with self.assertRaises(PressError):
            read(known(), [[2]])

    def test_nothing_of_that_piece_is_read(self):
        for model in small_models():
            for ahead in ([], [0], [0, 1, 1, 0], [1, 0, 1]):
                state, told = fed(begun(model), ahead)
                before, after = open_text(state), fed(state, [0, 1, 1, 0, 1, 1])
                for bits in self.WRONG:
                    with self.subTest(model=model, ahead=ahead, bits=bits):
                        with self.assertRaises(NoBit):
                            fed(state, bits)
                        self.assertEqual(open_text(state), before)
                        state_again, told_again = fed(state, [0, 1, 1, 0, 1, 1])
                        self.assertEqual(told_again, after[1])
                        self.assertEqual(open_text(state_again), open_text(after[0]))

    def test_the_piece_stays_as_it_is(self):
        bits = [0, 1, 1, 2]
        with self.assertRaises(NoBit):
            fed(begun(known()), bits)
        self.assertEqual(bits, [0, 1, 1, 2])


class States(unittest.TestCase):
    def test_a_state_may_be_used_several_times(self):
        for model in small_models():
            state, told = fed(begun(model), [0, 1, 0])
            before = open_text(state)
            for row in all_rows()[:64]:
                with self.subTest(model=model, bits=row):
                    behind, further = fed(state, row)
                    self.assertEqual((told + further, open_text(behind)), read(model, [[0, 1, 0] + row]))
                    self.assertEqual(open_text(state), before)

    def test_a_model_changed_meanwhile_changes_nothing(self):
        def emptied(shares):
            shares.clear()

        def turned(shares):
            shares.reverse()

        def others(shares):
            shares[:] = [("y", 1), ("x", 1)]

        def longer(shares):
            shares.append(("q", 1))

        for change in (emptied, turned, others, longer):
            for place, model in enumerate(small_models()):
                bits = all_pressed(model, texts_up_to(model, 2))
                expected, left = read(model, [bits])
                for cut in (0, 1, len(bits) // 2):
                    mine = small_models()[place]
                    state, told = fed(begun(mine), bits[:cut])
                    change(mine[1])
                    with self.subTest(change=change.__name__, model=model, cut=cut):
                        state, further = fed(state, bits[cut:])
                        self.assertEqual(told + further, expected)
                        self.assertEqual(open_text(state), left)

    def test_the_list_told_is_not_kept(self):
        state, told = fed(begun(known()), [1, 1, 0])
        told.clear()
        self.assertEqual(fed(state, [1, 1])[1], [("a", 4)])
        self.assertEqual(open_text(state), ("a", 1))

    def test_what_is_handed_in_is_not_changed(self):
        for model in small_models():
            bits = all_pressed(model, texts_up_to(model, 2))
            pieces = cut_into(bits, 3) + [[]]
            before = [list(piece) for piece in pieces]
            read(model, pieces)
            self.assertEqual(pieces, before)
            kept = list(bits)
            fed(begun(model), bits)
            self.assertEqual(bits, kept)

    def test_bits_changed_meanwhile_change_nothing(self):
        bits = [0, 1]
        state, told = fed(begun(known()), bits)
        bits[:] = [1, 0, 0]
        self.assertEqual(fed(state, [1])[1], [("a", 2)])


if __name__ == "__main__":
    unittest.main()
