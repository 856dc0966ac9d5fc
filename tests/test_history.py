"""What is kept to be undone within the budget; undone and redone; the call history."""

import random
import unittest

from helper import (act, ask, begin, copy, everything, history, last, look, own, play, record, redo, row, stop,
                    undo)


def line(budget):
    """A picture of one row of four; filling k of its pixels costs k and 1 more."""
    return begin(4, 1, budget, [0, 0, 0, 0])


FILLS = [act(10, 1, 255), act(10, 2, 255), act(10, 3, 255)]


class BudgetTest(unittest.TestCase):
    def test_met_exactly_and_passed_by_one(self):
        self.assertEqual(ask(line(15), *FILLS)[1:], [[5, 1], [5, 2], [5, 3]])
        self.assertEqual(ask(line(14), *FILLS)[1:], [[5, 1], [5, 2], [5, 2]])
        self.assertEqual(ask(line(10), *FILLS)[1:], [[5, 1], [5, 2], [5, 2]])
        self.assertEqual(ask(line(9), *FILLS)[1:], [[5, 1], [5, 1], [5, 1]])
        self.assertEqual(ask(line(5), *FILLS)[1:], [[5, 1], [5, 1], [5, 1]])

    def test_a_deed_that_alone_costs_more(self):
        self.assertEqual(ask(line(4), *FILLS, undo(), own(0))[1:], [[5, 0], [5, 0], [5, 0], [-6], [4] + [3, 255] * 4])

    def test_a_dear_deed_leaves_out_all_before_it(self):
        cheap = [act(4, 0), act(4, 0), act(4, 0)]
        self.assertEqual(ask(line(4), *cheap, FILLS[0], undo())[1:], [[1, 1], [1, 2], [1, 3], [5, 0], [-6]])
        self.assertEqual(ask(line(5), *cheap, FILLS[0], undo(), undo())[4:], [[5, 1], [0, 1], [-6]])

    def test_what_is_behind_the_first_left_out_is_left_out_too(self):
        calls = [line(7), act(4, 0), FILLS[0], act(4, 0), act(4, 0)]
        self.assertEqual(ask(*calls)[1:], [[1, 1], [5, 2], [1, 3], [1, 3]])
        self.assertEqual(ask(*calls, act(4, 0))[5:], [[1, 3]])
        self.assertEqual(ask(*calls, act(4, 0), act(4, 0), undo(), undo(), undo(), undo(), undo())[6:],
                         [[1, 4], [3, 1], [2, 2], [1, 3], [0, 4], [-6]])

    def test_behind_a_dear_one_what_follows_is_kept(self):
        self.assertEqual(ask(line(4), FILLS[0], act(4, 0), act(4, 0))[1:], [[5, 0], [1, 1], [1, 2]])

    def test_budget_0_keeps_nothing(self):
        self.assertEqual(ask(line(0), act(4, 0), FILLS[0], undo(), redo())[1:], [[1, 0], [5, 0], [-6], [-6]])

    def test_budget_1_keeps_one_that_changes_nothing(self):
        self.assertEqual(ask(line(1), act(4, 0), act(7, 2), FILLS[0])[1:], [[1, 1], [1, 1], [5, 0]])

    def test_the_greatest_budget_keeps_all(self):
        deeds = [act(10, k, 255) for k in range(1, 119)]
        told = ask(begin(12, 12, 10 ** 6, [0] * 144), *deeds)
        self.assertEqual(told[1:], [[145, k] for k in range(1, 119)])


class UndoTest(unittest.TestCase):
    def test_undone_and_redone(self):
        told = ask(line(99), *FILLS, undo(), own(0), undo(), own(0), redo(), own(0), redo(), own(0))[4:]
        self.assertEqual(told, [[2, 1], [4] + [2, 255] * 4, [1, 2], [4] + [1, 255] * 4,
                                [2, 1], [4] + [2, 255] * 4, [3, 0], [4] + [3, 255] * 4])

    def test_none_kept_or_none_to_redo(self):
        self.assertEqual(ask(undo(), redo()), [[-6], [-6]])
        self.assertEqual(ask(line(99), FILLS[0], redo(), undo(), undo(), redo(), redo())[2:],
                         [[-6], [0, 1], [-6], [1, 0], [-6]])

    def test_refused_all_is_as_it_was(self):
        calls = [line(5), *FILLS, undo()]
        self.assertEqual(look(1, *calls, undo()), look(1, *calls))
        self.assertEqual(ask(*calls, undo(), redo())[5:], [[-6], [1, 0]])
        self.assertEqual(ask(*calls, redo(), redo(), undo())[5:], [[1, 0], [-6], [0, 1]])

    def test_a_deed_done_leaves_nothing_to_redo(self):
        self.assertEqual(ask(line(99), *FILLS, undo(), undo(), act(4, 0), redo(), undo())[5:],
                         [[1, 2], [1, 2], [-6], [1, 1]])

    def test_a_deed_too_dear_to_keep_leaves_nothing_to_redo(self):
        calls = [line(3), act(4, 0), undo(), FILLS[0]]
        self.assertEqual(ask(*calls, redo(), undo())[2:], [[0, 1], [5, 0], [-6], [-6]])

    def test_a_deed_refused_leaves_what_may_be_redone(self):
        for refused in (act(10, 256, 0), act(19), act(4, 7), act(17), act(10, 1)):
            self.assertEqual(ask(line(99), FILLS[0], undo(), refused, redo())[4], [1, 0])

    def test_undone_costs_are_given_back(self):
        self.assertEqual(ask(line(10), FILLS[0], FILLS[1], undo(), FILLS[2], undo(), undo(), undo())[3:],
                         [[1, 1], [5, 2], [1, 1], [0, 2], [-6]])

    def test_redone_all_that_was_kept_is_kept(self):
        self.assertEqual(ask(line(10), *FILLS, undo(), undo(), redo(), redo())[4:], [[1, 1], [0, 2], [1, 1], [2, 0]])
        self.assertEqual(last(line(10), *FILLS, undo(), undo(), redo(), redo(), act(4, 0)), [1, 2])

    def test_all_of_a_picture_comes_again(self):
        start = begin(3, 2, 999, [1, 2, 3, 4, 5, 6])
        before = [start, act(0), act(5, 0, 1, 0, 2, 2), act(10, 90, 100), act(3, 1, 1, 100, 4), act(4, 0)]
        for deed in (act(0), act(1, 0), act(1, 1), act(2, 0), act(3, 1, 0, 9, 1), act(4, 1), act(5, 4, 0, 0, 2, 1),
                     act(6, 1, 0, 0, 1, 1, 1), act(7, 0), act(8, 1), act(9, 1), act(10, 3, 4), act(11, 1),
                     act(12, 1, 1, 1), act(13, 17, 17), act(14), act(17), act(18, 0), act(18, 1)):
            self.assertEqual(look(2, *before, deed, undo()), look(2, *before))
            self.assertEqual(look(2, *before, deed, undo(), redo()), look(2, *before, deed))
            self.assertEqual(last(*before, deed, undo(), deed), last(*before, deed))

    def test_pasted_put_together_and_turned_come_again(self):
        before = [begin(3, 2, 999, [1, 2, 3, 4, 5, 6]), act(5, 0, 1, 0, 2, 2), act(14), act(15)]
        for deed, h in ((act(15), 2), (act(16), 2), (act(18, 2), 3)):
            self.assertEqual(look(2, *before, deed, undo()), look(2, *before))
            self.assertEqual(look(h, *before, deed, undo(), redo()), look(h, *before, deed))

    def test_how_layers_are_comes_again(self):
        before = [begin(1, 1, 99, [100]), act(0), act(10, 50, 255), act(3, 1, 1, 255, 5)]
        self.assertEqual(ask(*before, row(0), act(3, 1, 0, 255, 0), row(0), undo(), row(0), redo(), row(0))[4:],
                         [[1, 50, 255], [1, 4], [1, 100, 255], [3, 1], [1, 50, 255], [4, 0], [1, 100, 255]])


class HistoryCallTest(unittest.TestCase):
    def test_at_first(self):
        self.assertEqual(last(history()), [0, 0, 0, 0])
        self.assertEqual(last(line(9), history()), [0, 0, 0, 0])

    def test_behind_deeds(self):
        self.assertEqual(ask(line(99), FILLS[0], history(), act(4, 0), history(), act(5, 0, 0, 0, 2, 1), history())[1:],
                         [[5, 1], [1, 5, 0, 0], [1, 2], [2, 6, 0, 0], [3, 3], [3, 9, 0, 0]])

    def test_behind_undo_and_redo(self):
        self.assertEqual(ask(line(99), FILLS[0], act(4, 0), FILLS[1], undo(), history(), undo(), history(), undo(),
                             history(), redo(), history(), redo(), redo(), history())[4:],
                         [[2, 1], [2, 6, 1, 0], [1, 2], [1, 5, 2, 0], [0, 3], [0, 0, 3, 0], [1, 2], [1, 5, 2, 0],
                          [2, 1], [3, 0], [3, 11, 0, 0]])

    def test_a_deed_done_leaves_nothing_to_redo(self):
        self.assertEqual(last(line(99), *FILLS, undo(), undo(), act(4, 0), history()), [2, 6, 0, 0])

    def test_within_the_budget(self):
        self.assertEqual(last(line(10), *FILLS, history()), [2, 10, 0, 0])
        self.assertEqual(last(line(9), *FILLS, history()), [1, 5, 0, 0])
        self.assertEqual(last(line(4), *FILLS, history()), [0, 0, 0, 0])
        self.assertEqual(last(line(4), *FILLS, act(4, 0), history()), [1, 1, 0, 0])
        self.assertEqual(last(line(10), *FILLS, undo(), history()), [1, 5, 1, 0])
        self.assertEqual(last(line(10), *FILLS, undo(), undo(), redo(), redo(), history()), [2, 10, 0, 0])
        self.assertEqual(last(line(7), act(4, 0), FILLS[0], act(4, 0), act(4, 0), history()), [3, 7, 0, 0])

    def test_behind_record_and_stop(self):
        self.assertEqual(ask(line(99), FILLS[0], record(), history(), FILLS[1], history(), undo(), history(), stop(),
                             history(), act(4, 0), history(), record(), history())[3:],
                         [[1, 5, 0, 0], [5, 2], [2, 10, 0, 1], [1, 1], [1, 5, 1, 1], [1], [1, 5, 1, 1], [1, 2],
                          [2, 6, 0, 1], [0], [2, 6, 0, 0]])

    def test_behind_play(self):
        self.assertEqual(ask(line(12), record(), FILLS[0], FILLS[1], stop(), play(), history(), undo(), history())[5:],
                         [[2, 2], [2, 10, 0, 2], [1, 1], [1, 5, 1, 2]])

    def test_behind_begin(self):
        self.assertEqual(last(line(99), record(), *FILLS, undo(), line(5), history()), [0, 0, 0, 0])

    def test_looking_changes_nothing(self):
        before = [line(99), record(), *FILLS, undo()]
        self.assertEqual(everything(1, *before, history(), history()), everything(1, *before))
        self.assertEqual(last(*before, history(), redo()), [3, 0])

    def test_a_refusal_leaves_it(self):
        before = [line(12), record(), *FILLS, undo()]
        for refused in (act(10, 256, 0), act(19), act(4, 7), act(17), row(1), begin(0, 0, 0, []), play()):
            self.assertEqual(ask(*before, refused, history())[-1], [1, 5, 1, 3])

    def test_what_is_kept_costs_no_more_than_the_budget_together(self):
        for seed in range(60):
            source = random.Random(seed)
            budget = source.choice([0, 1, 4, 7, 20, 60])
            calls = [begin(3, 3, budget, [source.randint(0, 255) for _ in range(9)])]
            while len(calls) < 118:
                call = source.choice([undo(), redo(), copy(), record(), stop(), play(), act(4, 0), act(0), act(1, 1),
                                      act(10, source.randint(0, 255), 255), act(5, source.randint(0, 4), 0, 1, 2, 1),
                                      act(14), act(15), act(16), act(18, source.randint(0, 2)), act(17)])
                calls.extend([call, history()])
            before = [0, 0, 0, 0]
            for call, told, (kept, spent, redos, recorded) in zip(calls[1::2], ask(*calls)[1::2], ask(*calls)[2::2]):
                self.assertLessEqual(spent, budget)
                self.assertLessEqual(kept, spent)
                self.assertEqual(kept == 0, spent == 0)
                self.assertLessEqual(recorded, 40)
                if call[0] == 2 and told[0] > 0:
                    self.assertEqual((kept, redos), (told[1], 0))
                elif call[0] in (3, 4) and told[0] >= 0:
                    self.assertEqual([kept, redos], told)
                elif call[0] != 13 or told[0] <= 0:
                    self.assertEqual([kept, spent, redos], before[:3])
                before = [kept, spent, redos, recorded]


if __name__ == "__main__":
    unittest.main()
