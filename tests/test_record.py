"""The calls record, stop and play, and of act the refusal of one deed more than 40 while it's recording."""

import unittest

from helper import (BIG, act, ask, begin, copy, everything, history, last, listed, look, own, owned, play, record, redo,
                    row, stop, undo)

START = begin(3, 1, 1000, [10, 20, 30])
# Done once on START it costs 4, then 3, then 2: what has become 0 and 0 stays so.
RIGHT = act(13, 17, 16)
NOTHING = act(4, 0)


def recorded(*calls):
    return last(*calls, history())[3]


class RecordTest(unittest.TestCase):
    def test_nothing_is_recorded_at_first(self):
        self.assertEqual(ask(stop(), play(), history()), [[0], [0, 0], [0, 0, 0, 0]])
        self.assertEqual(ask(START, RIGHT, stop(), play(), history())[2:], [[0], [0, 1], [1, 4, 0, 0]])

    def test_deeds_that_are_done_are(self):
        self.assertEqual(ask(START, record(), history(), RIGHT, history(), RIGHT, history(), stop())[1:],
                         [[0], [0, 0, 0, 0], [4, 1], [1, 4, 0, 1], [3, 2], [2, 7, 0, 2], [2]])

    def test_only_those_between_record_and_stop(self):
        calls = [START, act(10, 1, 1), record(), act(10, 2, 2), stop(), act(10, 3, 3)]
        self.assertEqual(ask(*calls, history(), play(), own(0))[-3:], [[3, 12, 0, 1], [1, 4], [3, 2, 2, 2, 2, 2, 2]])

    def test_refused_ones_are_not(self):
        refused = [act(19), act(10, 1), act(10, 256, 1), act(4, 7), act(1, 0), act(2, 0), act(17), act(15), act(16),
                   act(18, 3), act(0, 0), act(BIG)]
        calls = [START, record(), *refused, RIGHT, *refused, stop()]
        self.assertEqual(last(*calls), [1])
        self.assertEqual(ask(*calls, play(), own(0))[-2:], [[1, 2], [3, 0, 0, 0, 0, 10, 255]])

    def test_deeds_too_dear_to_keep_are(self):
        start = begin(3, 1, 0, [10, 20, 30])
        self.assertEqual(ask(start, record(), RIGHT, history(), stop(), play(), own(0))[2:],
                         [[4, 0], [0, 0, 0, 1], [1], [1, 0], [3, 0, 0, 0, 0, 10, 255]])

    def test_undone_ones_stay_recorded(self):
        calls = [START, record(), RIGHT, RIGHT, undo(), undo()]
        self.assertEqual(ask(*calls, history(), stop(), play(), own(0))[-4:],
                         [[0, 0, 2, 2], [2], [2, 2], [3, 0, 0, 0, 0, 10, 255]])

    def test_redone_ones_are_not_recorded_anew(self):
        calls = [START, record(), RIGHT, undo(), redo(), undo(), redo()]
        self.assertEqual(ask(*calls, history(), stop())[-2:], [[1, 4, 0, 1], [1]])
        self.assertEqual(recorded(START, RIGHT, undo(), record(), redo()), 0)

    def test_undone_and_done_otherwise_both_are(self):
        calls = [START, record(), RIGHT, undo(), act(10, 5, 5), stop()]
        self.assertEqual(last(*calls), [2])
        self.assertEqual(ask(START, record(), RIGHT, undo(), RIGHT, stop(), play(), own(0))[-2:],
                         [[2, 3], [3] + [0] * 6])

    def test_calls_that_are_no_deeds_are_not(self):
        calls = [START, record(), row(0), own(0), listed(), history(), copy(), undo(), redo(), row(1)]
        self.assertEqual(recorded(*calls), 0)

    def test_record_twice(self):
        calls = [START, record(), RIGHT, RIGHT, record(), history(), act(10, 5, 5), stop(), play(), own(0)]
        self.assertEqual(ask(*calls)[4:], [[0], [2, 7, 0, 0], [4, 3], [1], [1, 4], [3] + [5, 5] * 3])

    def test_record_again_behind_stop(self):
        calls = [START, record(), RIGHT, stop(), record()]
        self.assertEqual(recorded(*calls), 0)
        self.assertEqual(ask(*calls, stop(), play())[-2:], [[0], [0, 1]])

    def test_stop_twice(self):
        self.assertEqual(ask(START, record(), RIGHT, stop(), stop(), RIGHT, stop())[3:], [[1], [1], [3, 2], [1]])

    def test_stop_without_record(self):
        self.assertEqual(ask(START, RIGHT, stop(), RIGHT, stop(), history())[2:], [[0], [3, 2], [0], [2, 7, 0, 0]])

    def test_record_and_stop_leave_the_picture_and_what_is_kept(self):
        for before in ([START], [START, RIGHT, RIGHT, undo()], [START, act(5, 0, 1, 0, 1, 1), copy(), act(0)]):
            for calls in ([record()], [stop()], [record(), stop()], [record(), record(), stop(), stop()]):
                self.assertEqual(everything(1, *before, *calls), everything(1, *before))
                self.assertEqual(ask(*before, *calls, redo(), act(15))[-2:], ask(*before, redo(), act(15))[-2:])


class BeginTest(unittest.TestCase):
    def test_begin_while_recording(self):
        calls = [START, record(), RIGHT, begin(2, 1, 50, [1, 2])]
        self.assertEqual(ask(*calls, history(), RIGHT, history(), stop(), play())[4:],
                         [[0, 0, 0, 0], [3, 1], [1, 3, 0, 0], [0], [0, 1]])

    def test_begin_behind_stop(self):
        self.assertEqual(ask(START, record(), RIGHT, stop(), START, history(), stop(), play())[5:],
                         [[0, 0, 0, 0], [0], [0, 0]])

    def test_begin_refused_goes_on_recording(self):
        for refused in (begin(0, 1, 5, []), begin(1, 1, 10 ** 6 + 1, [1]), begin(1, 1, 5, [1, 2]),
                        begin(1, 1, 5, [256])):
            calls = [START, record(), RIGHT, refused, RIGHT]
            self.assertEqual(ask(*calls, play(), stop())[-2:], [[-6], [2]])
            self.assertEqual(ask(START, record(), RIGHT, stop(), refused, play())[-1], [1, 2])

    def test_begin_again_with_40_recorded(self):
        self.assertEqual(last(START, record(), *[NOTHING] * 40, START, NOTHING), [1, 1])


class FortyTest(unittest.TestCase):
    FULL = [START, record(), *[NOTHING] * 40]

    def test_40_and_a_41st(self):
        self.assertEqual(ask(START, record(), *[NOTHING] * 39, RIGHT, history(), act(10, 1, 1), history(), own(0))[-5:],
                         [[4, 40], [40, 43, 0, 40], [-5], [40, 43, 0, 40], [3, 0, 0, 10, 255, 20, 255]])

    def test_a_wrong_count_is_told_ahead_of_it(self):
        for refused in (act(19), act(19, 1), act(BIG), act(10, 1), act(10, 1, 1, 1), act(0, 0), act(4), act(4, 7, 7)):
            self.assertEqual(last(*self.FULL, refused), [-3])

    def test_it_is_told_ahead_of_what_the_deed_refuses(self):
        for refused in (act(1, 0), act(1, 7), act(2, 0), act(3, 0, 2, 0, 0), act(4, 7), act(5, 5, 0, 0, 1, 1),
                        act(6, 0, 3, 0, 0, 0, 0), act(7, 5), act(8, 1001), act(9, 1001), act(10, 256, 0), act(11, 5),
                        act(12, 0, 0, 0), act(13, 33, 0), act(15), act(16), act(17), act(18, 3)):
            self.assertEqual(last(*self.FULL, refused), [-5])
            self.assertIn(last(START, record(), refused)[0], (-1, -2, -6))

    def test_refused_all_is_as_it_was(self):
        before = [*self.FULL, undo(), undo()]
        for refused in (act(10, 1, 1), act(14), act(4, 7), act(19)):
            self.assertEqual(everything(1, *before, refused), everything(1, *before))
            self.assertEqual(ask(*before, refused, act(15), redo(), play(), stop(), play())[-5:],
                             [[-5], [39, 1], [-6], [40], [40, 79]])

    def test_refused_ones_do_not_count(self):
        calls = [START, record(), *[NOTHING, act(4, 7)] * 39, NOTHING]
        self.assertEqual(last(*calls), [1, 40])
        self.assertEqual(last(*calls, NOTHING), [-5])

    def test_undone_ones_count(self):
        self.assertEqual(last(*self.FULL, *[undo()] * 40, NOTHING), [-5])
        self.assertEqual(last(*self.FULL, undo(), redo(), NOTHING), [-5])

    def test_not_recording_it_goes_on(self):
        self.assertEqual(ask(*self.FULL, stop(), NOTHING, history())[-3:], [[40], [1, 41], [41, 41, 0, 40]])
        self.assertEqual(ask(*self.FULL, record(), NOTHING, history())[-3:], [[0], [1, 41], [41, 41, 0, 1]])
        self.assertEqual(last(START, *[NOTHING] * 60), [1, 60])

    def test_all_40_are_played(self):
        self.assertEqual(ask(*self.FULL, stop(), play(), play(), history())[-3:],
                         [[40, 80], [40, 120], [120, 120, 0, 40]])


class PlayTest(unittest.TestCase):
    def test_nothing_recorded(self):
        before = [START, RIGHT, RIGHT, undo()]
        self.assertEqual(last(*before, play()), [0, 1])
        self.assertEqual(everything(1, *before, play()), everything(1, *before))
        self.assertEqual(last(*before, play(), redo()), [2, 0])

    def test_one_behind_another(self):
        calls = [START, record(), act(5, 0, 0, 0, 2, 1), RIGHT, act(10, 7, 8), stop()]
        self.assertEqual(ask(*calls, own(0))[2:], [[3, 1], [6, 2], [3, 3], [3], [3, 0, 0, 7, 8, 7, 8]])
        self.assertEqual(ask(*calls, play(), own(0), history())[-3:], [[3, 6], [3, 0, 0, 7, 8, 7, 8], [6, 21, 0, 3]])

    def test_while_recording(self):
        calls = [START, record(), RIGHT]
        self.assertEqual(ask(*calls, play(), stop(), play())[3:], [[-6], [1], [1, 2]])
        self.assertEqual(everything(1, *calls, play()), everything(1, *calls))
        self.assertEqual(last(START, record(), play()), [-6])
        self.assertEqual(ask(*calls, undo(), play(), redo(), play(), RIGHT, stop())[3:],
                         [[0, 1], [-6], [1, 0], [-6], [3, 2], [2]])

    def test_twice(self):
        calls = [START, record(), act(13, 15, 16), stop(), undo(), play(), own(0), play(), own(0), play(), own(0)]
        self.assertEqual(ask(*calls)[5:], [[1, 1], [3, 20, 255, 30, 255, 0, 0], [1, 2], [3, 30, 255, 0, 0, 0, 0],
                                           [1, 3], [3, 0, 0, 0, 0, 0, 0]])

    def test_ends_at_a_refused_deed(self):
        calls = [START, act(0), record(), act(10, 5, 5), act(1, 0), act(10, 6, 6), stop()]
        self.assertEqual(ask(*calls, play(), own(0), listed(), history())[-4:],
                         [[1, 5], [3, 5, 5, 5, 5, 5, 5], [1, 3, 1, 1, 1, 1, 255, 0], [5, 20, 0, 3]])

    def test_ends_at_each_refusal(self):
        paste = [begin(1, 1, 99, [3]), copy(), record(), act(15), act(4, 0), stop()]
        self.assertEqual([last(*paste, *[play()] * k) for k in (1, 2, 3, 4)], [[2, 4], [2, 6], [2, 8], [0, 8]])
        flood = [START, record(), NOTHING, act(6, 0, 2, 0, 9, 0, 0), act(17), stop()]
        self.assertEqual(ask(*flood, play(), listed())[-2:], [[1, 4], [0, 1, 1, 1, 0, 1, 255, 0]])
        together = [START, act(0), act(0), record(), act(16), NOTHING, act(4, 1), stop()]
        self.assertEqual(ask(*together, play(), play())[-2:], [[2, 7], [0, 7]])
        crop = [START, act(7, 0), record(), act(17), act(7, 2), stop()]
        self.assertEqual(last(*crop, play()), [0, 3])

    def test_the_first_refused_leaves_all(self):
        calls = [START, act(0), record(), act(1, 1), stop(), NOTHING, undo()]
        self.assertEqual(last(*calls, play()), [0, 2])
        self.assertEqual(everything(1, *calls, play()), everything(1, *calls))
        self.assertEqual(last(*calls, play(), redo()), [3, 0])

    def test_a_deed_done_leaves_nothing_to_redo(self):
        calls = [START, record(), NOTHING, stop(), RIGHT, undo()]
        self.assertEqual(ask(*calls, play(), redo(), history())[-3:], [[1, 2], [-6], [2, 2, 0, 1]])

    def test_each_deed_is_undone_by_itself(self):
        calls = [START, record(), act(10, 1, 1), act(10, 2, 2), stop(), act(10, 9, 9), play()]
        self.assertEqual(ask(*calls, own(0), undo(), own(0), undo(), own(0), redo(), own(0))[6:],
                         [[2, 5], [3] + [2, 2] * 3, [4, 1], [3] + [1, 1] * 3, [3, 2], [3] + [9, 9] * 3, [4, 1],
                          [3] + [1, 1] * 3])

    def test_undone_as_often_as_played_it_is_as_it_was(self):
        calls = [START, record(), act(0), act(10, 6, 99), act(5, 4, 0, 0, 2, 1), stop()]
        self.assertEqual(look(1, *calls, play(), *[undo()] * 3), look(1, *calls))

    def test_what_is_recorded_stays(self):
        calls = [START, record(), RIGHT, NOTHING, stop()]
        self.assertEqual(ask(*calls, play(), history(), play(), history(), undo(), undo(), history())[5:],
                         [[2, 4], [4, 9, 0, 2], [2, 6], [6, 12, 0, 2], [5, 1], [4, 2], [4, 9, 2, 2]])

    def test_cut_and_paste_played(self):
        calls = [START, record(), act(5, 0, 0, 0, 1, 1), act(14), act(15), act(13, 17, 16), stop()]
        self.assertEqual(owned(1, *calls), [[0, 0, 10, 255, 0, 0]])
        self.assertEqual(owned(1, *calls, act(4, 0)), [[0, 0, 20, 255, 30, 255]])
        self.assertEqual(owned(1, *calls, act(4, 0), play(), act(15)), [[0, 0, 0, 0, 0, 0]])
        self.assertEqual(owned(1, *calls, act(4, 0), act(7, 0), act(10, 4, 4), play(), act(15)), [[4, 4, 0, 0, 0, 0]])

    def test_layers_have_new_numbers(self):
        calls = [START, record(), act(0), act(3, 1, 0, 5, 2), stop()]
        self.assertEqual(ask(*calls, play(), listed())[-2:],
                         [[2, 4], [2, 3, 1, 3, 0, 1, 255, 0, 1, 0, 5, 2, 2, 1, 255, 0]])

    def test_with_little_budget(self):
        start = begin(3, 1, 5, [10, 20, 30])
        calls = [start, record(), act(10, 1, 1), NOTHING, NOTHING, act(10, 2, 2), stop()]
        self.assertEqual(ask(*calls, play(), history(), undo(), undo(), undo())[7:],
                         [[4, 2], [2, 5, 0, 4], [1, 1], [0, 2], [-6]])

    def test_played_into_another_size(self):
        calls = [START, record(), act(5, 0, 1, 0, 1, 1), act(17), stop()]
        self.assertEqual(ask(*calls, play(), listed(), own(0))[-3:],
                         [[1, 3], [0, 1, 1, 1, 0, 1, 255, 0], [1, 20, 255]])


if __name__ == "__main__":
    unittest.main()
