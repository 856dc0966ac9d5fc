"""Deeds 0 to 4, 15 and 16: layers made, gone, raised, set, worked on, pasted, put together."""

import unittest

from helper import BIG, act, ask, begin, blended, chosen, last, own, owned, redo, row, shown, undo

START = begin(2, 2, 1000, [10, 20, 30, 40])


def numbers_of_layers(*calls):
    """The layers' numbers from below, seen through the deeds alone: the highest can't be raised."""
    found = []
    for i in range(20):
        if last(*calls, act(4, i)) == [-2]:
            continue
        raises = 0
        while last(*calls, *[act(2, i)] * (raises + 1)) != [-6]:
            raises += 1
        found.append((-raises, i))
    return [i for _, i in sorted(found)]


class MakeTest(unittest.TestCase):
    def test_made_right_above_the_one_worked_on(self):
        self.assertEqual(ask(START, act(0), own(0), row(0))[1:], [[5, 1], [2, 0, 0, 0, 0], [2, 10, 255, 20, 255]])
        self.assertEqual(numbers_of_layers(START, act(0), act(0)), [0, 1, 2])
        self.assertEqual(numbers_of_layers(START, act(0), act(4, 0), act(0)), [0, 2, 1])

    def test_is_worked_on_and_seen_and_strong(self):
        self.assertEqual(shown(2, START, act(0), act(10, 7, 255)), [[7, 255, 7, 255]] * 2)

    def test_cost_is_all_its_dots(self):
        self.assertEqual(last(begin(1, 1, 9, [0]), act(0)), [2, 1])
        self.assertEqual(last(begin(12, 12, 999, [0] * 144), act(0)), [145, 1])

    def test_five_at_most(self):
        self.assertEqual(ask(START, *[act(0)] * 5)[1:], [[5, 1], [5, 2], [5, 3], [5, 4], [-5]])
        self.assertEqual(last(START, *[act(0)] * 4, act(1, 2), act(0)), [5, 6])

    def test_numbers_are_not_given_again_to_layers_that_went(self):
        self.assertEqual(numbers_of_layers(START, act(0), act(1, 1), act(0)), [0, 2])

    def test_told_one_number_too_many(self):
        self.assertEqual(last(START, act(0, 0)), [-3])


class DropTest(unittest.TestCase):
    def test_the_lowest_is_worked_on_then(self):
        calls = [START, act(0), act(10, 5, 5), act(0), act(10, 6, 6)]
        self.assertEqual(ask(*calls, act(1, 2), own(0))[5:], [[5, 5], [2, 10, 255, 20, 255]])
        self.assertEqual(ask(*calls, act(4, 0), act(1, 0), own(0))[6:], [[5, 6], [2, 5, 5, 5, 5]])

    def test_another_one_stays_worked_on(self):
        calls = [START, act(0), act(10, 5, 5), act(0), act(10, 6, 6)]
        self.assertEqual(last(*calls, act(1, 0), own(0)), [2, 6, 6, 6, 6])
        self.assertEqual(last(*calls, act(1, 1), own(0)), [2, 6, 6, 6, 6])
        self.assertEqual(numbers_of_layers(*calls, act(1, 1)), [0, 2])

    def test_what_it_showed_is_gone(self):
        calls = [START, act(0), act(10, 5, 255)]
        self.assertEqual(shown(2, *calls, act(1, 1)), [[10, 255, 20, 255], [30, 255, 40, 255]])

    def test_refusals(self):
        self.assertEqual(last(START, act(1, 0)), [-6])
        self.assertEqual(last(START, act(1, 1)), [-2])
        self.assertEqual(last(START, act(0), act(1, BIG)), [-2])
        self.assertEqual(last(START, act(0), act(1, 1), act(1, 1)), [-2])
        self.assertEqual(last(START, act(1)), [-3])
        self.assertEqual(last(START, act(1, 0, 0)), [-3])


class RaiseTest(unittest.TestCase):
    CALLS = [START, act(0), act(10, 5, 255), act(0), act(10, 6, 255)]

    def test_above_the_next_one(self):
        self.assertEqual(ask(*self.CALLS, act(2, 1), row(0))[5:], [[1, 5], [2, 5, 255, 5, 255]])
        self.assertEqual(numbers_of_layers(*self.CALLS, act(2, 0)), [1, 0, 2])
        self.assertEqual(numbers_of_layers(*self.CALLS, act(2, 0), act(2, 0)), [1, 2, 0])

    def test_the_layer_worked_on_stays_so(self):
        self.assertEqual(last(*self.CALLS, act(2, 1), own(0)), [2, 6, 255, 6, 255])
        self.assertEqual(last(*self.CALLS, act(4, 1), act(2, 1), own(0)), [2, 5, 255, 5, 255])

    def test_refusals(self):
        self.assertEqual(last(*self.CALLS, act(2, 2)), [-6])
        self.assertEqual(last(*self.CALLS, act(2, 3)), [-2])
        self.assertEqual(last(*self.CALLS, act(2, BIG)), [-2])
        self.assertEqual(last(START, act(2, 0)), [-6])
        self.assertEqual(last(START, act(2)), [-3])
        self.assertEqual(last(START, act(2, 0, 1)), [-3])


class SetTest(unittest.TestCase):
    def test_how_a_layer_is(self):
        calls = [START, act(0), act(10, 100, 255), act(4, 0)]
        self.assertEqual(last(*calls, act(3, 1, 1, 255, 0)), [1, 4])
        self.assertEqual(last(*calls, act(3, 1, 0, 255, 0), row(0)), [2, 10, 255, 20, 255])
        self.assertEqual(last(*calls, act(3, 1, 1, 0, 0), row(0)), [2, 10, 255, 20, 255])
        self.assertEqual(last(*calls, act(3, 1, 1, 255, 6), row(0)), [2, 110, 255, 120, 255])
        self.assertEqual(last(*calls, act(3, 1, 1, 255, 5), row(0)), [2, 90, 255, 80, 255])
        self.assertEqual(last(*calls, act(3, 1, 1, 51, 0), row(0)), [2, 28, 255, 36, 255])

    def test_its_dots_and_the_others_stay(self):
        calls = [START, act(0), act(10, 100, 50), act(3, 1, 0, 3, 4)]
        self.assertEqual(owned(2, *calls), [[100, 50] * 2] * 2)
        self.assertEqual(owned(2, *calls, act(4, 0)), [[10, 255, 20, 255], [30, 255, 40, 255]])

    def test_refusals(self):
        for more in ((0, 2, 255, 0), (0, 1, 256, 0), (0, 1, 255, 7), (0, BIG, 0, 0), (0, 0, BIG, 0), (0, 0, 0, BIG)):
            self.assertEqual(last(START, act(3, *more)), [-1])
        self.assertEqual(last(START, act(3, 1, 1, 255, 0)), [-2])
        self.assertEqual(last(START, act(3, BIG, 0, 0, 6)), [-2])
        self.assertEqual(last(START, act(3, 0, 1, 255)), [-3])
        self.assertEqual(last(START, act(3, 0, 1, 255, 0, 0)), [-3])

    def test_what_can_not_be_is_told_ahead_of_no_such_layer(self):
        self.assertEqual(last(START, act(3, 9, 2, 255, 0)), [-1])
        self.assertEqual(last(START, act(3, 9, 1, 256, 0)), [-1])
        self.assertEqual(last(START, act(3, 9, 1, 255, 7)), [-1])


class WorkOnTest(unittest.TestCase):
    def test_is_worked_on(self):
        self.assertEqual(ask(START, act(0), act(4, 0), own(1))[2:], [[1, 2], [2, 30, 255, 40, 255]])
        self.assertEqual(ask(START, act(4, 0))[1:], [[1, 1]])

    def test_refusals(self):
        self.assertEqual(last(START, act(4, 1)), [-2])
        self.assertEqual(last(START, act(4, BIG)), [-2])
        self.assertEqual(last(START, act(0), act(1, 1), act(4, 1)), [-2])
        self.assertEqual(last(START, act(4)), [-3])
        self.assertEqual(last(START, act(4, 0, 0)), [-3])


class PasteTest(unittest.TestCase):
    CUT = [START, act(5, 0, 1, 0, 1, 2), act(14)]

    def test_each_dot_at_its_place_on_a_new_layer(self):
        told = ask(*self.CUT, act(15), own(0), own(1), row(0), act(4, 0), own(0))[3:]
        self.assertEqual(told, [[5, 3], [2, 0, 0, 20, 255], [2, 0, 0, 40, 255], [2, 10, 255, 20, 255], [1, 4],
                                [2, 10, 255, 0, 0]])

    def test_made_right_above_the_one_worked_on(self):
        self.assertEqual(numbers_of_layers(*self.CUT, act(0), act(4, 0), act(15)), [0, 2, 1])

    def test_pasted_again_and_again(self):
        self.assertEqual(last(*self.CUT, act(15), act(15), own(0)), [2, 0, 0, 20, 255])

    def test_the_choice_makes_no_difference(self):
        self.assertEqual(last(*self.CUT, act(5, 0, 0, 0, 1, 1), act(15), own(1)), [2, 0, 0, 40, 255])

    def test_beyond_the_picture_left_out(self):
        self.assertEqual(ask(*self.CUT, act(5, 0, 0, 0, 2, 1), act(17), act(15), own(0))[5:],
                         [[3, 5], [2, 0, 0, 20, 255]])
        self.assertEqual(ask(*self.CUT, act(5, 0, 0, 0, 1, 1), act(17), act(15), own(0))[5:], [[2, 5], [1, 0, 0]])

    def test_places_stay_when_the_picture_is_turned(self):
        self.assertEqual(owned(2, *self.CUT, act(18, 2), act(15)), [[0, 0, 20, 255], [0, 0, 40, 255]])
        self.assertEqual(owned(2, begin(3, 2, 99, range(6)), act(14), act(18, 2), act(15))[0], [0, 255, 1, 255])

    def test_refusals(self):
        self.assertEqual(last(START, act(15)), [-6])
        self.assertEqual(last(*self.CUT, *[act(0)] * 4, act(15)), [-5])
        self.assertEqual(last(START, *[act(0)] * 4, act(15)), [-6])
        self.assertEqual(last(*self.CUT, act(15, 0)), [-3])


class TogetherTest(unittest.TestCase):
    def test_has_what_both_show(self):
        calls = [START, act(0), act(10, 100, 51)]
        told = ask(*calls, act(16), own(0), row(1), act(1, 0), act(4, 1))[3:]
        self.assertEqual(told, [[9, 3], [2, 28, 255, 36, 255], [2, 44, 255, 52, 255], [-6], [-2]])

    def test_cost_counts_only_dots_that_are_otherwise(self):
        calls = [START, act(0), act(5, 0, 0, 0, 1, 1), act(10, 99, 255)]
        self.assertEqual(last(*calls, act(16)), [6, 4])

    def test_the_upper_one_by_its_way_and_strength(self):
        for way in range(7):
            calls = [START, act(10, 90, 200), act(0), act(10, 201, 130), act(3, 1, 1, 77, way), act(3, 0, 1, 99, 4)]
            dot = blended([(1, 99, 0, 90, 200), (1, 77, way, 201, 130)])
            self.assertEqual(last(*calls, act(16), own(0)), [2] + list(dot) * 2)

    def test_seen_and_strong_and_its_own_way_after(self):
        calls = [begin(1, 1, 99, [50]), act(0), act(10, 100, 255), act(3, 1, 1, 10, 6), act(0), act(10, 30, 255),
                 act(16)]
        self.assertEqual(last(*calls, own(0)), blended_row((1, 10, 0, 100, 255), (1, 255, 0, 30, 255)))
        self.assertEqual(last(*calls, row(0)), [1, 80, 255])

    def test_one_not_seen_adds_nothing(self):
        calls = [START, act(0), act(10, 100, 51)]
        self.assertEqual(last(*calls, act(3, 1, 0, 255, 0), act(16), own(0)), [2, 10, 255, 20, 255])
        self.assertEqual(last(*calls, act(3, 0, 0, 255, 0), act(16), own(0)), [2, 100, 51, 100, 51])
        self.assertEqual(ask(*calls, act(3, 0, 0, 255, 0), act(3, 1, 0, 255, 0), act(16), own(0))[5:],
                         [[9, 5], [2, 0, 0, 0, 0]])

    def test_layers_beside_stay(self):
        calls = [START, act(0), act(10, 1, 255), act(0), act(10, 2, 255), act(0), act(10, 3, 255), act(4, 2)]
        self.assertEqual(numbers_of_layers(*calls, act(16)), [0, 1, 3])
        self.assertEqual(last(*calls, act(16), own(0)), [2, 2, 255, 2, 255])
        self.assertEqual(last(*calls, act(16), act(4, 0), own(0)), [2, 10, 255, 20, 255])
        self.assertEqual(last(*calls, act(16), act(4, 3), own(0)), [2, 3, 255, 3, 255])

    def test_the_choice_makes_no_difference_and_stays(self):
        calls = [START, act(0), act(10, 100, 51), act(5, 0, 0, 0, 1, 1), act(16)]
        self.assertEqual(ask(*calls, own(0), chosen(0))[4:], [[9, 4], [2, 28, 255, 36, 255], [2, 1, 0]])

    def test_refusals(self):
        self.assertEqual(last(START, act(16)), [-6])
        self.assertEqual(last(START, act(0), act(4, 0), act(16)), [-6])
        self.assertEqual(last(START, act(0), act(16, 1)), [-3])


def blended_row(*stack):
    return [1] + list(blended(stack))


class NumbersAgainTest(unittest.TestCase):
    def test_numbers_of_undone_layers_are_given_again(self):
        calls = [START, act(0), act(0), undo(), act(0)]
        self.assertEqual(numbers_of_layers(*calls), [0, 1, 2])
        self.assertEqual(numbers_of_layers(*calls, undo(), undo(), act(0)), [0, 1])

    def test_redone_a_layer_has_its_number(self):
        calls = [START, act(0), act(0), undo(), undo(), redo(), redo()]
        self.assertEqual(numbers_of_layers(*calls), [0, 1, 2])
        self.assertEqual(numbers_of_layers(*calls, act(0)), [0, 1, 2, 3])

    def test_a_layer_gone_comes_again_undone(self):
        self.assertEqual(numbers_of_layers(START, act(0), act(0), act(1, 1), undo(), act(0)), [0, 1, 2, 3])

    def test_pasted_and_put_together_count_alike(self):
        self.assertEqual(numbers_of_layers(START, act(14), act(15), act(16), act(0)), [0, 2])
        self.assertEqual(numbers_of_layers(START, act(14), act(15), undo(), act(0)), [0, 1])


if __name__ == "__main__":
    unittest.main()
