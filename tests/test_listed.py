"""The call listed: the layer worked on, the sides, and how each layer is, from below."""

import unittest

from helper import BIG, act, ask, begin, copy, everything, last, listed, play, record, redo, stop, undo

START = begin(3, 2, 1000, [1, 2, 3, 4, 5, 6])


def told_of(*calls):
    """The layer worked on, (w, h), and of each layer, from below, (number, seen, strong, way)."""
    told = last(*calls, listed())
    layers = [tuple(told[place:place + 4]) for place in range(4, len(told), 4)]
    assert told[3] == len(layers), told
    return told[0], (told[1], told[2]), layers


def order(*calls):
    return [layer[0] for layer in told_of(*calls)[2]]


class ListedTest(unittest.TestCase):
    def test_one_layer(self):
        self.assertEqual(last(listed()), [0, 1, 1, 1, 0, 1, 255, 0])
        self.assertEqual(last(START, listed()), [0, 3, 2, 1, 0, 1, 255, 0])
        self.assertEqual(last(begin(12, 11, 5, [9] * 132), listed()), [0, 12, 11, 1, 0, 1, 255, 0])

    def test_layers_from_below(self):
        self.assertEqual(last(START, act(0), listed()), [1, 3, 2, 2, 0, 1, 255, 0, 1, 1, 255, 0])
        self.assertEqual(last(START, act(0), act(4, 0), act(0), listed()),
                         [2, 3, 2, 3, 0, 1, 255, 0, 2, 1, 255, 0, 1, 1, 255, 0])
        self.assertEqual(order(START, *[act(0)] * 4), [0, 1, 2, 3, 4])
        self.assertEqual(order(START, *[act(0), act(4, 0)] * 4), [0, 4, 3, 2, 1])

    def test_raised(self):
        calls = [START, act(0), act(0)]
        self.assertEqual(order(*calls, act(2, 0)), [1, 0, 2])
        self.assertEqual(order(*calls, act(2, 1)), [0, 2, 1])
        self.assertEqual(order(*calls, act(2, 0), act(2, 0)), [1, 2, 0])
        self.assertEqual(told_of(*calls, act(2, 0))[0], 2)

    def test_how_each_is(self):
        calls = [START, act(0), act(0), act(3, 0, 0, 17, 6), act(3, 2, 1, 0, 3)]
        self.assertEqual(told_of(*calls), (2, (3, 2), [(0, 0, 17, 6), (1, 1, 255, 0), (2, 1, 0, 3)]))
        self.assertEqual(told_of(*calls, act(2, 0))[2], [(1, 1, 255, 0), (0, 0, 17, 6), (2, 1, 0, 3)])
        self.assertEqual(told_of(*calls, act(3, 0, 1, 255, 0))[2][0], (0, 1, 255, 0))

    def test_every_way_and_strength(self):
        for way in range(7):
            for strong in (0, 1, 128, 255):
                for seen in (0, 1):
                    self.assertEqual(last(START, act(3, 0, seen, strong, way), listed()),
                                     [0, 3, 2, 1, 0, seen, strong, way])

    def test_how_refused_stays(self):
        for more in ((0, 2, 0, 0), (0, 0, 256, 0), (0, 0, 0, 7), (1, 0, 0, 0), (0, BIG, 1, 1)):
            self.assertEqual(last(START, act(3, *more), listed()), last(START, listed()))

    def test_the_layer_worked_on(self):
        calls = [START, act(0), act(0)]
        for i in range(3):
            self.assertEqual(told_of(*calls, act(4, i))[0], i)
        self.assertEqual(told_of(*calls, act(1, 2))[0], 0)
        self.assertEqual(told_of(*calls, act(2, 0), act(1, 2))[0], 1)
        self.assertEqual(told_of(*calls, act(4, 1), act(1, 0)), (1, (3, 2), [(1, 1, 255, 0), (2, 1, 255, 0)]))

    def test_numbers_go_on_behind_layers_that_went(self):
        self.assertEqual(order(START, act(0), act(1, 1), act(0)), [0, 2])
        self.assertEqual(order(START, act(0), act(1, 0), act(0)), [1, 2])

    def test_pasted_and_put_together(self):
        calls = [START, act(3, 0, 1, 40, 5), act(14), act(15)]
        self.assertEqual(told_of(*calls), (1, (3, 2), [(0, 1, 40, 5), (1, 1, 255, 0)]))
        self.assertEqual(told_of(*calls, act(3, 1, 0, 9, 2), act(16)), (0, (3, 2), [(0, 1, 255, 5)]))
        self.assertEqual(told_of(*calls, act(3, 0, 0, 0, 6), act(16)), (0, (3, 2), [(0, 1, 255, 6)]))

    def test_cropped_and_turned(self):
        calls = [START, act(0), act(3, 1, 0, 3, 4)]
        self.assertEqual(told_of(*calls, act(18, 2)), (1, (2, 3), [(0, 1, 255, 0), (1, 0, 3, 4)]))
        self.assertEqual(told_of(*calls, act(18, 0))[1], (3, 2))
        self.assertEqual(told_of(*calls, act(18, 1))[1], (3, 2))
        self.assertEqual(told_of(*calls, act(5, 0, 1, 0, 2, 1), act(17)), (1, (2, 1), [(0, 1, 255, 0), (1, 0, 3, 4)]))
        self.assertEqual(told_of(*calls, act(5, 0, 1, 0, 2, 1), act(17), act(18, 2))[1], (1, 2))

    def test_undone_and_redone(self):
        before = [START, act(0), act(3, 1, 0, 3, 4), act(5, 0, 1, 0, 2, 1)]
        for deed in (act(0), act(1, 0), act(1, 1), act(2, 0), act(3, 0, 0, 0, 1), act(4, 0), act(16), act(17),
                     act(18, 2)):
            self.assertNotEqual(last(*before, deed, listed()), last(*before, listed()), deed)
            self.assertEqual(last(*before, deed, undo(), listed()), last(*before, listed()))
            self.assertEqual(last(*before, deed, undo(), redo(), listed()), last(*before, deed, listed()))

    def test_numbers_of_undone_layers_are_given_again(self):
        self.assertEqual(order(START, act(0), act(0), undo(), undo(), act(0)), [0, 1])
        self.assertEqual(order(START, act(0), act(1, 1), undo(), act(0)), [0, 1, 2])
        self.assertEqual(order(START, act(0), act(1, 1), undo(), undo(), act(0)), [0, 1])

    def test_begin_again(self):
        self.assertEqual(last(START, act(0), act(3, 0, 0, 0, 1), begin(1, 2, 5, [1, 2]), listed()),
                         [0, 1, 2, 1, 0, 1, 255, 0])

    def test_looking_changes_nothing(self):
        before = [START, act(0), undo()]
        self.assertEqual(everything(2, *before, listed(), listed()), everything(2, *before))
        self.assertEqual(ask(*before, listed(), redo())[-1], [1, 0])

    def test_copy_record_stop_and_an_empty_play_leave_it(self):
        before = [START, act(0), act(3, 1, 1, 7, 1)]
        self.assertEqual(last(*before, copy(), record(), stop(), play(), listed()), last(*before, listed()))


if __name__ == "__main__":
    unittest.main()
