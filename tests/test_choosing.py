"""Deeds 5 to 9: how pixels are chosen."""

import unittest

from helper import BIG, act, ask, begin, chosen, last, look, picked, undo

START = begin(4, 3, 1000, [10, 11, 50, 10,
                           12, 90, 10, 10,
                           13, 14, 15, 10])
NONE = [[0, 0, 0, 0]] * 3
ALL = [[1, 1, 1, 1]] * 3


def rows(text):
    """Rows of a picture drawn with # for what is chosen."""
    return [[int(sign == "#") for sign in line] for line in text.split()]


class RectangleTest(unittest.TestCase):
    def test_as_wide_and_high_as_told(self):
        self.assertEqual(ask(START, act(5, 0, 1, 1, 2, 2))[1], [5, 1])
        self.assertEqual(picked(3, START, act(5, 0, 1, 1, 2, 2)), rows(".... .##. .##."))
        self.assertEqual(picked(3, START, act(5, 0, 3, 0, 1, 3)), rows("...# ...# ...#"))

    def test_as_far_as_it_is_in_the_picture(self):
        self.assertEqual(picked(3, START, act(5, 0, 2, 1, BIG, BIG)), rows(".... ..## ..##"))
        self.assertEqual(picked(3, START, act(5, 0, 0, 0, 4, 3)), ALL)
        self.assertEqual(picked(3, START, act(5, 0, 0, 0, 5, 4)), ALL)
        for more in ((4, 0, 1, 1), (0, 3, 1, 1), (BIG, BIG, BIG, BIG), (BIG, 0, BIG, 1), (0, BIG, 1, BIG)):
            self.assertEqual(picked(3, START, act(5, 0, *more)), NONE)

    def test_without_width_or_height_it_has_none(self):
        self.assertEqual(picked(3, START, act(7, 0), act(5, 0, 1, 1, 0, 2)), NONE)
        self.assertEqual(picked(3, START, act(7, 0), act(5, 2, 1, 1, 2, 0)), ALL)

    def test_refusals(self):
        self.assertEqual(last(START, act(5, 5, 0, 0, 1, 1)), [-1])
        self.assertEqual(last(START, act(5, BIG, 0, 0, 1, 1)), [-1])
        self.assertEqual(last(START, act(5, 0, 0, 0, 1)), [-3])
        self.assertEqual(last(START, act(5, 9, 0, 0, 1, 1, 1)), [-3])


class HowTest(unittest.TestCase):
    OLD = [START, act(5, 0, 0, 0, 2, 2)]

    def test_each_how(self):
        for how, drawn, cost in ((0, ".... .##. .##.", 7), (1, "##.. ###. .##.", 4), (2, "##.. #... ....", 2),
                                 (3, ".... .#.. ....", 4), (4, "##.. #.#. .##.", 5)):
            self.assertEqual(picked(3, *self.OLD, act(5, how, 1, 1, 2, 2)), rows(drawn))
            self.assertEqual(last(*self.OLD, act(5, how, 1, 1, 2, 2)), [cost, 2])

    def test_each_how_with_all(self):
        for how, drawn in ((0, "#### #### ####"), (1, "#### #### ####"), (2, ".... .... ...."),
                           (3, "##.. ##.. ...."), (4, "..## ..## ####")):
            self.assertEqual(picked(3, *self.OLD, act(7, how)), rows(drawn))

    def test_each_how_with_a_flood(self):
        for how, drawn in ((0, "...# ..## ...#"), (1, "##.# #### ...#"), (2, "##.. ##.. ...."),
                           (3, ".... .... ...."), (4, "##.# #### ...#")):
            self.assertEqual(picked(3, *self.OLD, act(6, how, 3, 0, 0, 0, 0)), rows(drawn))

    def test_each_how_with_none_chosen(self):
        for how, drawn in ((0, "#### #### ####"), (1, "#### #### ####"), (2, ".... .... ...."),
                           (3, ".... .... ...."), (4, "#### #### ####")):
            self.assertEqual(picked(3, START, act(7, how)), rows(drawn))

    def test_all_costs_each_pixel(self):
        self.assertEqual(last(START, act(7, 0)), [13, 1])
        self.assertEqual(last(START, act(7, 0), act(7, 0)), [1, 2])
        self.assertEqual(last(START, act(7, 3)), [1, 1])

    def test_refusals_of_all(self):
        self.assertEqual(last(START, act(7, 5)), [-1])
        self.assertEqual(last(START, act(7, BIG)), [-1])
        self.assertEqual(last(START, act(7)), [-3])
        self.assertEqual(last(START, act(7, 0, 0)), [-3])

    def test_choosing_leaves_all_dots(self):
        told = look(3, START)
        for deed in (act(7, 0), act(5, 4, 0, 0, 2, 2), act(6, 0, 0, 0, 9, 1, 1), act(8, 3), act(9, 3)):
            after = look(3, START, act(5, 0, 1, 0, 1, 1), deed)
            self.assertEqual(after[0::3] + after[1::3], told[0::3] + told[1::3])


class FloodTest(unittest.TestCase):
    def flood(self, x, y, tolerance, kind, corners):
        return picked(3, START, act(6, 0, x, y, tolerance, kind, corners))

    def test_from_the_first_pixel(self):
        self.assertEqual(self.flood(0, 0, 0, 0, 0), rows("#... .... ...."))
        self.assertEqual(self.flood(0, 0, 1, 0, 0), rows("##.. .... ...."))
        self.assertEqual(self.flood(0, 0, 3, 0, 0), rows("##.. #... #..."))
        self.assertEqual(self.flood(0, 0, 5, 0, 0), rows("##.# #.## ####"))

    def test_from_the_pixel_that_the_step_is_from(self):
        self.assertEqual(self.flood(0, 0, 0, 1, 0), rows("#... .... ...."))
        self.assertEqual(self.flood(0, 0, 1, 1, 0), rows("##.. .... ...."))
        self.assertEqual(self.flood(0, 0, 2, 1, 0), rows("##.. #... ###."))
        self.assertEqual(self.flood(0, 2, 1, 1, 0), rows(".... #... ###."))
        self.assertEqual(self.flood(0, 2, 4, 1, 0), rows("##.. #... ###."))
        self.assertEqual(self.flood(0, 2, 5, 1, 0), rows("##.# #.## ####"))

    def test_with_corners(self):
        self.assertEqual(self.flood(0, 0, 0, 0, 1), rows("#... .... ...."))
        self.assertEqual(self.flood(0, 0, 1, 0, 1), rows("##.# ..## ...#"))
        self.assertEqual(self.flood(0, 0, 1, 1, 1), rows("##.# #.## ####"))
        self.assertEqual(self.flood(3, 2, 0, 0, 1), rows("...# ..## ...#"))

    def test_aslant_only_with_corners(self):
        for w, h, colours, x, y in ((2, 2, [1, 9, 9, 1], 0, 0), (2, 2, [1, 9, 9, 1], 1, 1),
                                    (2, 2, [9, 1, 1, 9], 1, 0), (2, 2, [9, 1, 1, 9], 0, 1)):
            start = begin(w, h, 99, colours)
            self.assertEqual(last(start, act(6, 0, x, y, 7, 0, 0)), [2, 1])
            self.assertEqual(last(start, act(6, 0, x, y, 7, 0, 1)), [3, 1])
            self.assertEqual(last(start, act(6, 0, x, y, 8, 0, 0)), [5, 1])

    def test_no_step_round_the_edge(self):
        start = begin(3, 3, 99, [5, 9, 5, 9, 9, 9, 5, 9, 5])
        for x, y in ((0, 0), (2, 0), (0, 2), (2, 2)):
            for corners in (0, 1):
                self.assertEqual(last(start, act(6, 0, x, y, 3, 0, corners)), [2, 1])

    def test_tolerance_as_great_as_can_be(self):
        for kind in (0, 1):
            self.assertEqual(self.flood(1, 1, BIG, kind, 0), ALL)
            self.assertEqual(self.flood(1, 1, 255, kind, 1), ALL)

    def test_further_is_looked_at_both_ways(self):
        start = begin(3, 1, 99, [100, 103, 97])
        self.assertEqual(picked(1, start, act(6, 0, 0, 0, 3, 0, 0)), [[1, 1, 1]])
        self.assertEqual(picked(1, start, act(6, 0, 0, 0, 3, 1, 0)), [[1, 1, 0]])
        self.assertEqual(picked(1, start, act(6, 0, 1, 0, 5, 0, 0)), [[1, 1, 0]])
        self.assertEqual(picked(1, start, act(6, 0, 1, 0, 6, 0, 0)), [[1, 1, 1]])
        self.assertEqual(picked(1, begin(3, 1, 99, [100, 97, 94]), act(6, 0, 0, 0, 3, 0, 0)), [[1, 1, 0]])
        self.assertEqual(picked(1, begin(3, 1, 99, [100, 97, 94]), act(6, 0, 0, 0, 3, 1, 0)), [[1, 1, 1]])

    def test_colours_of_the_layer_worked_on_whatever_is_shown(self):
        self.assertEqual(picked(3, START, act(0), act(6, 0, 2, 1, 0, 0, 0)), ALL)
        self.assertEqual(picked(3, START, act(3, 0, 0, 0, 1), act(6, 0, 3, 0, 0, 0, 0)), rows("...# ..## ...#"))
        self.assertEqual(picked(3, START, act(0), act(10, 9, 255), act(4, 0), act(6, 0, 3, 0, 0, 0, 0)),
                         rows("...# ..## ...#"))

    def test_covers_make_no_difference(self):
        calls = [begin(2, 1, 99, [7, 7]), act(5, 0, 0, 0, 1, 1), act(10, 7, 0)]
        self.assertEqual(picked(1, *calls, act(6, 0, 1, 0, 0, 0, 0)), [[1, 1]])

    def test_refusals(self):
        for more in ((5, 0, 0, 0, 0, 0), (0, 4, 0, 0, 0, 0), (0, 0, 3, 0, 0, 0), (0, 0, 0, 0, 2, 0),
                     (0, 0, 0, 0, 0, 2), (BIG, 0, 0, 0, 0, 0), (0, BIG, 0, 0, 0, 0), (0, 0, BIG, 0, 0, 0),
                     (0, 0, 0, 0, BIG, 0), (0, 0, 0, 0, 0, BIG), (9, 9, 9, 9, 9, 9)):
            self.assertEqual(last(START, act(6, *more)), [-1])
        self.assertEqual(last(START, act(6, 0, 0, 0, 0, 0)), [-3])
        self.assertEqual(last(START, act(6, 9, 9, 9, 9, 9, 9, 9)), [-3])

    def test_the_whole_of_the_greatest_picture(self):
        start = begin(12, 12, 999, [(k * 37) % 2 for k in range(144)])
        self.assertEqual(last(start, act(6, 0, 5, 6, 1, 1, 0)), [145, 1])


class GrowTest(unittest.TestCase):
    def grown(self, r, *calls):
        return picked(5, begin(5, 5, 999, [0] * 25), *calls, act(8, r))

    def test_by_the_square_of_the_distance(self):
        one = act(5, 0, 2, 2, 1, 1)
        self.assertEqual(self.grown(0, one), rows("..... ..... ..#.. ..... ....."))
        self.assertEqual(self.grown(1, one), rows("..... ..#.. .###. ..#.. ....."))
        self.assertEqual(self.grown(2, one), rows("..... .###. .###. .###. ....."))
        self.assertEqual(self.grown(3, one), rows("..... .###. .###. .###. ....."))
        self.assertEqual(self.grown(4, one), rows("..#.. .###. ##### .###. ..#.."))
        self.assertEqual(self.grown(5, one), rows(".###. ##### ##### ##### .###."))
        self.assertEqual(self.grown(8, one), [[1] * 5] * 5)

    def test_at_the_edges(self):
        self.assertEqual(self.grown(1, act(5, 0, 0, 0, 1, 1)), rows("##... #.... ..... ..... ....."))
        self.assertEqual(self.grown(2, act(5, 0, 4, 3, 1, 1)), rows("..... ..... ...## ...## ...##"))

    def test_all_and_none(self):
        self.assertEqual(self.grown(1000, act(7, 0)), [[1] * 5] * 5)
        self.assertEqual(self.grown(1000), [[0] * 5] * 5)

    def test_cost(self):
        self.assertEqual(last(begin(5, 5, 999, [0] * 25), act(5, 0, 2, 2, 1, 1), act(8, 2)), [9, 2])
        self.assertEqual(last(begin(5, 5, 999, [0] * 25), act(8, 2)), [1, 1])

    def test_from_corner_to_corner_of_the_greatest(self):
        start = [begin(12, 12, 999, [0] * 144), act(5, 0, 0, 0, 1, 1)]
        self.assertEqual(last(*start, act(8, 241), chosen(11)), [12] + [1] * 11 + [0])
        self.assertEqual(last(*start, act(8, 242), chosen(11)), [12] + [1] * 12)

    def test_refusals(self):
        self.assertEqual(last(START, act(8, 1000)), [1, 1])
        self.assertEqual(last(START, act(8, 1001)), [-1])
        self.assertEqual(last(START, act(8, BIG)), [-1])
        self.assertEqual(last(START, act(8)), [-3])
        self.assertEqual(last(START, act(8, 1, 1)), [-3])


class ShrinkTest(unittest.TestCase):
    def shrunk(self, r, *calls):
        return picked(5, begin(5, 5, 999, [0] * 25), *calls, act(9, r))

    def test_by_the_square_of_the_distance(self):
        square = act(5, 0, 0, 1, 4, 4)
        self.assertEqual(self.shrunk(0, square), rows("..... ####. ####. ####. ####."))
        self.assertEqual(self.shrunk(1, square), rows("..... ..... ###.. ###.. ###.."))
        self.assertEqual(self.shrunk(3, square), rows("..... ..... ###.. ###.. ###.."))
        self.assertEqual(self.shrunk(4, square), rows("..... ..... ..... ##... ##..."))
        self.assertEqual(self.shrunk(9, square), rows("..... ..... ..... ..... #...."))
        self.assertEqual(self.shrunk(16, square), rows("..... ..... ..... ..... ....."))

    def test_aslant(self):
        hole = [act(7, 0), act(5, 2, 2, 2, 1, 1)]
        self.assertEqual(self.shrunk(1, *hole), rows("##### ##.## #...# ##.## #####"))
        self.assertEqual(self.shrunk(2, *hole), rows("##### #...# #...# #...# #####"))
        self.assertEqual(self.shrunk(5, *hole), rows("#...# ..... ..... ..... #...#"))

    def test_beyond_the_picture_nothing_is_unchosen(self):
        self.assertEqual(self.shrunk(1000, act(7, 0)), [[1] * 5] * 5)

    def test_with_none_chosen_none_is(self):
        self.assertEqual(self.shrunk(0), [[0] * 5] * 5)
        self.assertEqual(self.shrunk(1000), [[0] * 5] * 5)

    def test_cost(self):
        start = [begin(5, 5, 999, [0] * 25), act(5, 0, 0, 1, 4, 4)]
        self.assertEqual(ask(*start, act(9, 1), undo())[2:], [[8, 2], [1, 1]])

    def test_refusals(self):
        self.assertEqual(last(START, act(9, 1000)), [1, 1])
        self.assertEqual(last(START, act(9, 1001)), [-1])
        self.assertEqual(last(START, act(9, BIG)), [-1])
        self.assertEqual(last(START, act(9)), [-3])
        self.assertEqual(last(START, act(9, 1, 1)), [-3])


if __name__ == "__main__":
    unittest.main()
