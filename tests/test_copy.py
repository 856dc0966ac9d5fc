"""The call copy: dots kept aside as by cutting, that stay in the picture."""

import unittest

from helper import act, ask, begin, copy, everything, history, last, look, owned, picked, play, record, redo, stop, undo

START = begin(3, 2, 1000, [10, 20, 30, 40, 50, 60])
FULL = [[10, 255, 20, 255, 30, 255], [40, 255, 50, 255, 60, 255]]


class CopyTest(unittest.TestCase):
    def test_how_many_dots(self):
        self.assertEqual(last(copy()), [1])
        self.assertEqual(last(START, copy()), [6])
        self.assertEqual(last(START, act(5, 0, 1, 0, 2, 1), copy()), [2])
        self.assertEqual(last(START, act(7, 0), copy()), [6])
        self.assertEqual(last(START, act(7, 0), act(7, 2), copy()), [6])
        self.assertEqual(last(begin(12, 12, 9, [1] * 144), copy()), [144])

    def test_dots_of_no_cover_count_too(self):
        self.assertEqual(last(START, act(0), copy()), [6])
        self.assertEqual(last(START, act(10, 7, 0), copy()), [6])
        self.assertEqual(owned(2, START, act(10, 7, 0), copy(), act(15)), [[7, 0] * 3] * 2)

    def test_they_stay(self):
        for choice in (act(7, 2), act(7, 0), act(5, 0, 1, 0, 1, 2)):
            self.assertEqual(look(2, START, choice, copy()), look(2, START, choice))

    def test_pasted_each_at_its_place(self):
        self.assertEqual(owned(2, START, copy(), act(15)), FULL)
        calls = [START, act(5, 0, 1, 0, 2, 1), copy(), act(15)]
        self.assertEqual(owned(2, *calls), [[0, 0, 20, 255, 30, 255], [0] * 6])
        self.assertEqual(owned(2, *calls, act(4, 0)), FULL)
        self.assertEqual(picked(2, *calls), [[0, 1, 1], [0, 0, 0]])
        self.assertEqual(last(*calls), [7, 2])

    def test_as_by_cutting(self):
        for choice in (act(7, 2), act(7, 0), act(5, 0, 1, 0, 1, 2), act(6, 0, 0, 0, 10, 1, 0)):
            for between in ([], [act(18, 2)], [act(18, 2), act(17)]):
                cut = [START, choice, act(14), *between, act(15)]
                copied = [START, choice, copy(), *between, act(15)]
                self.assertEqual(owned(3, *copied), owned(3, *cut))
                self.assertEqual(picked(3, *copied), picked(3, *cut))

    def test_of_the_layer_worked_on(self):
        calls = [START, act(0), act(10, 5, 6), copy()]
        self.assertEqual(owned(2, *calls, act(15)), [[5, 6] * 3] * 2)
        self.assertEqual(owned(2, *calls, act(4, 0), copy(), act(15)), FULL)

    def test_as_they_were_when_copied(self):
        self.assertEqual(owned(2, START, copy(), act(10, 1, 2), act(15)), FULL)
        self.assertEqual(owned(2, START, copy(), act(15), act(10, 1, 2), act(15)), FULL)

    def test_pasted_more_than_once(self):
        calls = [START, act(5, 0, 0, 0, 1, 1), copy(), act(15), act(15)]
        self.assertEqual(owned(2, *calls), [[10, 255, 0, 0, 0, 0], [0] * 6])
        self.assertEqual(last(*calls, act(15), act(15), act(15)), [-5])

    def test_what_is_not_chosen_is_not_pasted(self):
        calls = [START, act(5, 0, 2, 1, 1, 1), copy(), act(7, 2), act(15)]
        self.assertEqual(owned(2, *calls), [[0] * 6, [0, 0, 0, 0, 60, 255]])


class AnotherSizeTest(unittest.TestCase):
    def test_cropped_since(self):
        calls = [START, copy(), act(5, 0, 1, 0, 2, 1), act(17), act(15)]
        self.assertEqual(owned(1, *calls), [[10, 255, 20, 255]])
        self.assertEqual(owned(1, *calls, act(4, 0)), [[20, 255, 30, 255]])

    def test_cropped_since_and_all_of_it_beyond(self):
        calls = [START, act(5, 0, 2, 1, 1, 1), copy(), act(17), act(15)]
        self.assertEqual(ask(*calls)[-1], [2, 3])
        self.assertEqual(owned(1, *calls), [[0, 0]])

    def test_turned_since(self):
        calls = [START, copy(), act(18, 2), act(15)]
        self.assertEqual(owned(3, *calls), [[10, 255, 20, 255], [40, 255, 50, 255], [0, 0, 0, 0]])
        self.assertEqual(owned(3, *calls, act(4, 0)), [[40, 255, 10, 255], [50, 255, 20, 255], [60, 255, 30, 255]])
        self.assertEqual(owned(2, START, copy(), act(18, 0), act(15)), FULL)
        self.assertEqual(owned(2, START, copy(), act(18, 1), act(15)), FULL)

    def test_beyond_left_out_and_there_again(self):
        calls = [START, copy(), act(18, 2), act(15), undo(), undo(), act(15)]
        self.assertEqual(owned(2, *calls), FULL)

    def test_copied_from_the_cropped_one(self):
        calls = [START, act(5, 0, 1, 1, 2, 1), act(17), copy(), undo(), act(15)]
        self.assertEqual(owned(2, *calls), [[50, 255, 60, 255, 0, 0], [0] * 6])

    def test_begin_forgets_what_is_aside(self):
        self.assertEqual(last(START, copy(), START, act(15)), [-6])
        self.assertEqual(last(START, copy(), begin(3, 2, 9, [1]), act(15)), [7, 1])


class AsideTest(unittest.TestCase):
    def test_copied_over_what_was_cut(self):
        calls = [START, act(5, 0, 0, 0, 1, 1), act(14), act(5, 0, 1, 0, 1, 1), copy()]
        self.assertEqual(owned(2, *calls, act(15)), [[0, 0, 20, 255, 0, 0], [0] * 6])

    def test_cut_over_what_was_copied(self):
        calls = [START, act(5, 0, 1, 0, 1, 1), copy(), act(5, 0, 0, 0, 1, 1), act(14)]
        self.assertEqual(owned(2, *calls, act(15)), [[10, 255, 0, 0, 0, 0], [0] * 6])

    def test_copied_over_what_was_copied(self):
        calls = [START, copy(), act(5, 0, 2, 0, 1, 2), copy()]
        self.assertEqual(owned(2, *calls, act(15)), [[0, 0, 0, 0, 30, 255], [0, 0, 0, 0, 60, 255]])

    def test_undone_or_redone_it_stays(self):
        calls = [START, act(5, 0, 0, 0, 1, 1), copy()]
        pasted = [[10, 255, 0, 0, 0, 0], [0] * 6]
        self.assertEqual(owned(2, *calls, undo(), act(15)), pasted)
        self.assertEqual(owned(2, *calls, undo(), redo(), act(15)), pasted)
        self.assertEqual(owned(2, *calls, act(15), undo(), undo(), act(15)), pasted)
        cut_then = [START, act(14), undo(), act(5, 0, 0, 0, 1, 1), copy(), undo(), act(15)]
        self.assertEqual(owned(2, *cut_then), pasted)

    def test_a_cut_redone_is_not_put_aside_anew(self):
        calls = [START, act(5, 0, 0, 0, 1, 1), act(14), undo(), undo(), copy(), redo(), redo(), act(15)]
        self.assertEqual(owned(2, *calls), FULL)


class NoDeedTest(unittest.TestCase):
    def test_no_state_is_kept_and_nothing_to_redo_is_lost(self):
        for before in ([START], [START, act(10, 1, 1)], [START, act(10, 1, 1), undo()],
                       [START, act(7, 0), act(0), act(0), undo(), undo()]):
            self.assertEqual(everything(2, *before, copy()), everything(2, *before))
            self.assertEqual(ask(*before, copy(), redo(), undo(), undo(), undo())[len(before) + 1:],
                             ask(*before, redo(), undo(), undo(), undo())[len(before):])

    def test_it_costs_nothing(self):
        self.assertEqual(ask(begin(2, 1, 1, [4, 5]), act(4, 0), copy(), copy(), history())[2:],
                         [[2], [2], [1, 1, 0, 0]])
        self.assertEqual(ask(begin(2, 1, 0, [4, 5]), copy(), history(), act(15))[1:], [[2], [0, 0, 0, 0], [3, 0]])

    def test_it_is_not_recorded(self):
        calls = [START, record(), copy(), act(5, 0, 0, 0, 1, 1), copy(), act(15), stop()]
        self.assertEqual(last(*calls), [2])
        after = [act(4, 0), act(7, 0), copy(), play()]
        self.assertEqual(last(*calls, *after), [2, 6])
        self.assertEqual(owned(2, *calls, *after), FULL)

    def test_it_goes_on_with_40_deeds_recorded(self):
        self.assertEqual(ask(START, record(), *[act(4, 0)] * 40, copy(), history())[-2:], [[6], [40, 40, 0, 40]])


if __name__ == "__main__":
    unittest.main()
