"""Deeds 10 to 14: dots filled, smoothed, ranked, moved and cut."""

import unittest

from helper import BIG, act, ask, begin, chosen, last, own, owned, picked, redo, row, undo

START = begin(3, 2, 1000, [10, 20, 30, 40, 50, 60])
WIDE = begin(3, 3, 1000, [0, 9, 18, 27, 36, 45, 54, 63, 81])


def colours(h, *calls):
    return [told[0::2] for told in owned(h, *calls)]


def covers(h, *calls):
    return [told[1::2] for told in owned(h, *calls)]


class FillTest(unittest.TestCase):
    def test_all_if_none_is_chosen(self):
        self.assertEqual(ask(START, act(10, 7, 8), own(0), own(1))[1:], [[7, 1], [3] + [7, 8] * 3, [3] + [7, 8] * 3])

    def test_only_the_chosen(self):
        calls = [START, act(5, 0, 1, 0, 2, 1), act(10, 255, 0)]
        self.assertEqual(owned(2, *calls), [[10, 255, 255, 0, 255, 0], [40, 255, 50, 255, 60, 255]])
        self.assertEqual(last(*calls), [3, 2])

    def test_only_what_is_otherwise_costs(self):
        self.assertEqual(last(START, act(10, 50, 255)), [6, 1])
        self.assertEqual(last(START, act(10, 50, 254)), [7, 1])
        self.assertEqual(last(START, act(10, 0, 0), act(10, 0, 0)), [1, 2])
        self.assertEqual(last(START, act(10, 0, 0), act(10, 1, 0)), [7, 2])

    def test_only_the_layer_worked_on(self):
        self.assertEqual(owned(2, START, act(0), act(10, 1, 2), act(4, 0)), owned(2, START))

    def test_refusals(self):
        self.assertEqual(last(START, act(10, 255, 255)), [7, 1])
        for more in ((256, 0), (0, 256), (BIG, BIG), (BIG, 0), (0, BIG)):
            self.assertEqual(last(START, act(10, *more)), [-1])
        self.assertEqual(last(START, act(10, 0)), [-3])
        self.assertEqual(last(START, act(10, 256, 0, 0)), [-3])


class SmoothTest(unittest.TestCase):
    def test_mean_of_the_window(self):
        self.assertEqual(colours(3, WIDE, act(5, 0, 1, 1, 1, 1), act(11, 1)), [[0, 9, 18], [27, 37, 45], [54, 63, 81]])

    def test_beyond_the_picture_the_nearest_at_its_edge(self):
        self.assertEqual(colours(1, begin(2, 1, 99, [0, 90]), act(11, 1)), [[30, 60]])
        self.assertEqual(colours(1, begin(2, 1, 99, [0, 90]), act(11, 4)), [[40, 50]])
        self.assertEqual(colours(2, begin(1, 2, 99, [0, 90]), act(11, 2)), [[36], [54]])
        corner = [WIDE, act(5, 0, 0, 0, 1, 1), act(11, 1)]
        self.assertEqual(colours(3, *corner)[0][0], 12)

    def test_rounded_to_the_nearest(self):
        self.assertEqual(colours(1, begin(3, 1, 99, [0, 0, 1]), act(11, 1)), [[0, 0, 1]])
        self.assertEqual(colours(1, begin(3, 1, 99, [0, 1, 1]), act(11, 1)), [[0, 1, 1]])
        self.assertEqual(colours(1, begin(5, 1, 99, [0, 0, 7, 0, 0]), act(11, 2)), [[1, 1, 1, 1, 1]])
        self.assertEqual(colours(1, begin(5, 1, 99, [0, 0, 8, 0, 0]), act(11, 2)), [[2, 2, 2, 2, 2]])

    def test_looked_at_as_they_were_before(self):
        self.assertEqual(colours(1, begin(4, 1, 99, [255, 0, 0, 0]), act(11, 1)), [[170, 85, 0, 0]])

    def test_reach_0_leaves_all(self):
        self.assertEqual(last(WIDE, act(11, 0)), [1, 1])

    def test_colours_not_chosen_are_looked_at_and_covers_stay(self):
        calls = [begin(3, 1, 99, [0, 30, 90]), act(5, 0, 0, 0, 1, 1), act(10, 60, 5), act(5, 0, 1, 0, 1, 1)]
        self.assertEqual(owned(1, *calls, act(11, 1)), [[60, 5, 60, 255, 90, 255]])
        self.assertEqual(owned(1, *calls, act(7, 0), act(11, 1)), [[50, 5, 60, 255, 70, 255]])

    def test_cost_is_what_is_otherwise(self):
        self.assertEqual(last(begin(4, 1, 99, [255, 0, 0, 0]), act(11, 1)), [3, 1])

    def test_the_layer_worked_on_alone(self):
        calls = [WIDE, act(0), act(10, 5, 5), act(11, 2)]
        self.assertEqual(colours(3, *calls), [[5, 5, 5]] * 3)
        self.assertEqual(colours(3, *calls, act(4, 0)), colours(3, WIDE))

    def test_refusals(self):
        self.assertEqual(last(WIDE, act(11, 4)), [10, 1])
        self.assertEqual(last(WIDE, act(11, 5)), [-1])
        self.assertEqual(last(WIDE, act(11, BIG)), [-1])
        self.assertEqual(last(WIDE, act(11)), [-3])
        self.assertEqual(last(WIDE, act(11, 5, 5)), [-3])


class RankTest(unittest.TestCase):
    def middle(self, r, p, q):
        return colours(3, WIDE, act(5, 0, 1, 1, 1, 1), act(12, r, p, q))[1][1]

    def test_the_one_with_that_number(self):
        self.assertEqual([self.middle(1, p, 8) for p in range(9)], [0, 9, 18, 27, 36, 45, 54, 63, 81])

    def test_least_most_and_middle(self):
        self.assertEqual(self.middle(1, 0, 1), 0)
        self.assertEqual(self.middle(1, 1, 1), 81)
        self.assertEqual(self.middle(1, 1, 2), 36)

    def test_rounded_down(self):
        self.assertEqual(self.middle(1, 1, 3), 18)
        self.assertEqual(self.middle(1, 124, 1000), 0)
        self.assertEqual(self.middle(1, 125, 1000), 9)
        self.assertEqual(self.middle(1, 99, 100), 63)

    def test_great_numbers(self):
        self.assertEqual(self.middle(1, BIG, BIG), 81)
        self.assertEqual(self.middle(1, BIG - 1, BIG), 63)
        self.assertEqual(self.middle(1, 1, BIG), 0)
        self.assertEqual(self.middle(1, (BIG - 15) // 8, BIG - 15), 9)
        self.assertEqual(self.middle(1, (BIG - 15) // 8 - 1, BIG - 15), 0)

    def test_places_beyond_count_as_often_as_they_come(self):
        start = begin(2, 1, 99, [10, 20])
        self.assertEqual(colours(1, start, act(12, 1, 5, 8)), [[10, 20]])
        self.assertEqual(colours(1, start, act(12, 1, 6, 8)), [[20, 20]])
        self.assertEqual(colours(1, start, act(12, 1, 2, 8)), [[10, 10]])

    def test_looked_at_before_and_covers_stay(self):
        calls = [begin(3, 1, 99, [9, 0, 0]), act(5, 0, 0, 0, 2, 1)]
        self.assertEqual(owned(1, *calls, act(12, 1, 1, 1)), [[9, 255, 9, 255, 0, 255]])
        self.assertEqual(owned(1, *calls, act(10, 8, 3), act(12, 1, 0, 1)), [[8, 3, 0, 3, 0, 255]])

    def test_reach_0_leaves_all(self):
        self.assertEqual(last(WIDE, act(12, 0, 0, 1)), [1, 1])
        self.assertEqual(last(WIDE, act(12, 0, 1, 1)), [1, 1])

    def test_cost_is_what_is_otherwise(self):
        self.assertEqual(last(WIDE, act(12, 4, 1, 1)), [9, 1])

    def test_refusals(self):
        for more in ((5, 0, 1), (BIG, 0, 1), (1, 0, 0), (1, 2, 1), (1, BIG, BIG - 1), (0, 1, 0), (5, 1, 0)):
            self.assertEqual(last(WIDE, act(12, *more)), [-1])
        self.assertEqual(last(WIDE, act(12, 1, 1)), [-3])
        self.assertEqual(last(WIDE, act(12, 9, 9, 0, 1)), [-3])


class MoveTest(unittest.TestCase):
    def test_all_if_none_is_chosen(self):
        calls = [START, act(13, 17, 16)]
        self.assertEqual(owned(2, *calls), [[0, 0, 10, 255, 20, 255], [0, 0, 40, 255, 50, 255]])
        self.assertEqual(picked(2, *calls), [[0, 0, 0]] * 2)
        self.assertEqual(last(*calls), [7, 1])

    def test_each_direction(self):
        self.assertEqual(colours(2, START, act(13, 15, 16)), [[20, 30, 0], [50, 60, 0]])
        self.assertEqual(colours(2, START, act(13, 16, 17)), [[0, 0, 0], [10, 20, 30]])
        self.assertEqual(colours(2, START, act(13, 16, 15)), [[40, 50, 60], [0, 0, 0]])
        self.assertEqual(covers(2, START, act(13, 16, 15)), [[255] * 3, [0] * 3])
        self.assertEqual(colours(2, START, act(13, 18, 15)), [[0, 0, 40], [0, 0, 0]])

    def test_the_chosen_move_and_so_does_the_choice(self):
        calls = [START, act(5, 0, 0, 0, 2, 1), act(13, 17, 17)]
        self.assertEqual(owned(2, *calls), [[0, 0, 0, 0, 30, 255], [40, 255, 10, 255, 20, 255]])
        self.assertEqual(picked(2, *calls), [[0, 0, 0], [0, 1, 1]])
        self.assertEqual(last(*calls), [9, 2])

    def test_over_one_another(self):
        calls = [START, act(5, 0, 0, 0, 2, 1), act(13, 17, 16)]
        self.assertEqual(owned(2, *calls)[0], [0, 0, 10, 255, 20, 255])
        self.assertEqual(picked(2, *calls)[0], [0, 1, 1])
        self.assertEqual(last(*calls), [6, 2])

    def test_what_is_beyond_is_lost_and_not_chosen(self):
        calls = [START, act(5, 0, 1, 0, 2, 1), act(13, 17, 16)]
        self.assertEqual(owned(2, *calls)[0], [10, 255, 0, 0, 20, 255])
        self.assertEqual(picked(2, *calls), [[0, 0, 1], [0, 0, 0]])
        calls = [START, act(5, 0, 1, 0, 2, 1), act(13, 32, 0)]
        self.assertEqual(owned(2, *calls)[0], [10, 255, 0, 0, 0, 0])
        self.assertEqual(picked(2, *calls), [[0, 0, 0]] * 2)

    def test_a_dot_of_no_cover_moves_too(self):
        calls = [START, act(5, 0, 0, 0, 1, 1), act(10, 7, 0), act(13, 17, 16)]
        self.assertEqual(owned(2, *calls)[0], [0, 0, 7, 0, 30, 255])

    def test_by_nothing(self):
        self.assertEqual(last(START, act(13, 16, 16)), [1, 1])
        self.assertEqual(last(START, act(7, 0), act(13, 16, 16)), [1, 2])

    def test_as_far_as_can_be(self):
        start = begin(12, 12, 999, [9] * 144)
        for more in ((0, 16), (32, 16), (16, 0), (16, 32), (32, 32), (4, 16), (28, 16), (16, 4), (16, 28)):
            self.assertEqual(owned(12, start, act(13, *more)), [[0, 0] * 12] * 12)
        self.assertEqual(owned(12, start, act(13, 27, 27))[11], [0, 0] * 11 + [9, 255])
        self.assertEqual(owned(12, start, act(13, 5, 5))[0], [9, 255] + [0, 0] * 11)

    def test_other_layers_stay(self):
        calls = [START, act(0), act(10, 5, 5), act(13, 17, 17), act(4, 0)]
        self.assertEqual(owned(2, *calls), owned(2, START))

    def test_refusals(self):
        for more in ((33, 16), (16, 33), (BIG, 16), (16, BIG)):
            self.assertEqual(last(START, act(13, *more)), [-1])
        self.assertEqual(last(START, act(13, 16)), [-3])
        self.assertEqual(last(START, act(13, 33, 33, 33)), [-3])


class CutTest(unittest.TestCase):
    def test_all_if_none_is_chosen(self):
        self.assertEqual(ask(START, act(14), own(0), row(1))[1:], [[7, 1], [3] + [0] * 6, [3] + [0] * 6])

    def test_only_the_chosen_and_they_stay_chosen(self):
        calls = [START, act(5, 0, 0, 0, 1, 2), act(14)]
        self.assertEqual(ask(*calls, own(0), own(1), chosen(0))[2:],
                         [[3, 2], [3, 0, 0, 20, 255, 30, 255], [3, 0, 0, 50, 255, 60, 255], [3, 1, 0, 0]])

    def test_only_what_is_otherwise_costs(self):
        self.assertEqual(last(START, act(14), act(14)), [1, 2])

    def test_instead_of_what_was_kept(self):
        calls = [START, act(5, 0, 0, 0, 1, 2), act(14), act(5, 0, 1, 0, 1, 2), act(14), act(15)]
        self.assertEqual(owned(2, *calls), [[0, 0, 20, 255, 0, 0], [0, 0, 50, 255, 0, 0]])

    def test_of_the_layer_worked_on(self):
        calls = [START, act(0), act(10, 5, 6), act(14)]
        self.assertEqual(owned(2, *calls, act(4, 0)), owned(2, START))
        self.assertEqual(last(*calls, act(15), own(0)), [3] + [5, 6] * 3)

    def test_aside_stays_undone_and_redone(self):
        calls = [START, act(5, 0, 0, 0, 1, 1), act(14)]
        self.assertEqual(last(*calls, undo(), act(15), own(0)), [3, 10, 255, 0, 0, 0, 0])
        self.assertEqual(last(*calls, undo(), undo(), act(15), own(0)), [3, 10, 255, 0, 0, 0, 0])
        again = [undo(), undo(), act(5, 0, 1, 0, 1, 1), act(14), act(15), own(0)]
        self.assertEqual(last(*calls, *again), [3, 0, 0, 20, 255, 0, 0])

    def test_redone_it_does_not_cut_anew(self):
        calls = [START, act(5, 0, 0, 0, 1, 1), act(14), act(5, 0, 1, 0, 1, 1), act(14), undo(), undo(), undo(), redo()]
        self.assertEqual(last(*calls, act(15), own(0)), [3, 0, 0, 20, 255, 0, 0])

    def test_a_refused_cut_keeps_nothing(self):
        self.assertEqual(ask(START, act(14, 0), act(15))[1:], [[-3], [-6]])


if __name__ == "__main__":
    unittest.main()
