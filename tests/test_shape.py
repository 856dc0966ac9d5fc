"""Deeds 17 and 18: the picture cropped and turned."""

import unittest

from helper import BIG, act, ask, begin, chosen, last, look, own, owned, picked, redo, row, shown, undo

START = begin(4, 3, 1000, [1, 2, 3, 4, 5, 6, 7, 8, 9, 10, 11, 12])
SQUARE = begin(2, 2, 1000, [1, 2, 3, 4])


def colours(h, *calls):
    return [told[0::2] for told in owned(h, *calls)]


class CropTest(unittest.TestCase):
    def test_to_the_least_rectangle(self):
        calls = [START, act(5, 0, 1, 1, 1, 1), act(5, 1, 2, 0, 1, 1), act(17)]
        self.assertEqual(colours(2, *calls), [[2, 3], [6, 7]])
        self.assertEqual(picked(2, *calls), [[0, 1], [1, 0]])
        self.assertEqual(last(*calls, row(2)), [-1])

    def test_one_pixel_at_each_corner(self):
        for x, y, colour in ((0, 0, 1), (3, 0, 4), (0, 2, 9), (3, 2, 12)):
            self.assertEqual(ask(START, act(5, 0, x, y, 1, 1), act(17), own(0), chosen(0))[2:],
                             [[27, 2], [1, colour, 255], [1, 1]])

    def test_cost_is_all_as_it_was_and_as_it_is(self):
        self.assertEqual(last(START, act(5, 0, 0, 0, 2, 3), act(17)), [1 + 24 + 12, 2])
        self.assertEqual(last(START, act(0), act(0), act(5, 0, 0, 0, 4, 2), act(17)), [1 + 48 + 32, 4])

    def test_cropped_to_all_it_costs_1(self):
        self.assertEqual(last(START, act(7, 0), act(17)), [1, 2])
        self.assertEqual(last(START, act(5, 0, 0, 0, 1, 1), act(5, 1, 3, 2, 1, 1), act(17)), [1, 3])

    def test_all_layers_are(self):
        calls = [START, act(0), act(5, 0, 2, 1, 1, 1), act(10, 90, 255), act(5, 1, 3, 1, 1, 2), act(17)]
        self.assertEqual(colours(2, *calls), [[90, 0], [0, 0]])
        self.assertEqual(colours(2, *calls, act(4, 0)), [[7, 8], [11, 12]])
        self.assertEqual(shown(2, *calls), [[90, 255, 8, 255], [11, 255, 12, 255]])

    def test_undone_and_redone(self):
        calls = [START, act(5, 0, 1, 1, 2, 1)]
        self.assertEqual(look(3, *calls, act(17), undo()), look(3, *calls))
        self.assertEqual(look(1, *calls, act(17), undo(), redo()), look(1, *calls, act(17)))

    def test_refusals(self):
        self.assertEqual(last(START, act(17)), [-6])
        self.assertEqual(last(START, act(7, 0), act(7, 2), act(17)), [-6])
        self.assertEqual(last(START, act(17, 0)), [-3])


class TurnTest(unittest.TestCase):
    def test_left_and_right(self):
        self.assertEqual(colours(3, START, act(18, 0)), [[4, 3, 2, 1], [8, 7, 6, 5], [12, 11, 10, 9]])

    def test_above_and_below(self):
        self.assertEqual(colours(3, START, act(18, 1)), [[9, 10, 11, 12], [5, 6, 7, 8], [1, 2, 3, 4]])

    def test_a_quarter_the_top_comes_to_the_right(self):
        self.assertEqual(colours(4, START, act(18, 2)), [[9, 5, 1], [10, 6, 2], [11, 7, 3], [12, 8, 4]])
        self.assertEqual(colours(2, SQUARE, act(18, 2)), [[3, 1], [4, 2]])
        self.assertEqual(colours(1, begin(1, 3, 99, [1, 2, 3]), act(18, 2)), [[3, 2, 1]])
        self.assertEqual(colours(3, begin(3, 1, 99, [1, 2, 3]), act(18, 2)), [[1], [2], [3]])

    def test_the_choice_too(self):
        calls = [START, act(5, 0, 0, 0, 2, 1)]
        self.assertEqual(picked(3, *calls, act(18, 0)), [[0, 0, 1, 1], [0] * 4, [0] * 4])
        self.assertEqual(picked(3, *calls, act(18, 1)), [[0] * 4, [0] * 4, [1, 1, 0, 0]])
        self.assertEqual(picked(4, *calls, act(18, 2)), [[0, 0, 1], [0, 0, 1], [0, 0, 0], [0, 0, 0]])

    def test_all_layers_are_whatever_is_chosen(self):
        calls = [SQUARE, act(0), act(5, 0, 0, 0, 1, 1), act(10, 90, 255), act(18, 2)]
        self.assertEqual(colours(2, *calls), [[0, 90], [0, 0]])
        self.assertEqual(colours(2, *calls, act(4, 0)), [[3, 1], [4, 2]])

    def test_cost(self):
        self.assertEqual(last(START, act(18, 0)), [13, 1])
        self.assertEqual(last(START, act(18, 1)), [9, 1])
        self.assertEqual(last(START, act(18, 2)), [1 + 24 + 24, 1])
        self.assertEqual(last(START, act(0), act(18, 2)), [1 + 36 + 36, 2])
        self.assertEqual(last(SQUARE, act(18, 2)), [5, 1])
        self.assertEqual(last(SQUARE, act(5, 0, 0, 0, 1, 1), act(18, 2)), [7, 2])
        self.assertEqual(last(SQUARE, act(10, 5, 5), act(18, 2)), [1, 2])

    def test_refusals(self):
        self.assertEqual(last(START, act(18, 3)), [-1])
        self.assertEqual(last(START, act(18, BIG)), [-1])
        self.assertEqual(last(START, act(18)), [-3])
        self.assertEqual(last(START, act(18, 3, 3)), [-3])


if __name__ == "__main__":
    unittest.main()
