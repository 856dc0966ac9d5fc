"""The form of the list of calls and of the list of answers."""

import unittest

from layerpaint.editor import answers

from helper import (BIG, Naive, act, ask, begin, chosen, copy, everything, history, last, listed, own, play, record,
                    redo, row, stop, undo)

MANY_KINDS = (begin(2, 2, 60, [1, 2, 3, 4]), act(5, 0, 0, 0, 1, 2), act(10, 9, 100), act(0), act(10, 200, 77),
              undo(), redo(), row(0), own(1), chosen(0), act(14), act(15), act(19), row(2), listed(), record(),
              act(4, 0), act(10, 3, 250), act(4, 1), play(), stop(), copy(), play(), history(), listed(), undo(),
              own(0))


def flat(calls):
    return [number for call in calls for number in call]


class FormTest(unittest.TestCase):
    def test_count_then_numbers_of_each_answer(self):
        self.assertEqual(answers(flat([begin(2, 1, 50, [7, 8]), act(10, 3, 4), undo(), redo(), row(0), own(0),
                                       chosen(0), row(1)])),
                         [1, 0, 2, 3, 1, 2, 0, 1, 2, 1, 0, 5, 2, 3, 4, 3, 4, 5, 2, 3, 4, 3, 4, 3, 2, 0, 0, 1, -1])

    def test_count_then_numbers_of_the_calls_without_numbers(self):
        self.assertEqual(answers([8, 9, 10, 11, 2, 4, 1, 0, 13, 12, 13, 9]),
                         [8, 0, 1, 1, 1, 0, 1, 255, 0, 4, 0, 0, 0, 0, 1, 1, 1, 0, 2, 1, 1, 1, -6, 1, 1, 2, 1, 2,
                          4, 2, 2, 0, 1])

    def test_a_refusal_is_one_number(self):
        self.assertEqual(answers([3]), [1, -6])
        self.assertEqual(answers([11, 13]), [1, 0, 1, -6])
        self.assertEqual(answers([2, 19, 0]), [1, -3])

    def test_all_answers_are_plain_whole_numbers(self):
        for number in answers(flat(MANY_KINDS)):
            self.assertIs(type(number), int)

    def test_gives_back_a_list(self):
        self.assertIs(type(answers([3])), list)


class BeginningTest(unittest.TestCase):
    def test_at_first_as_behind_begin_with_one_pixel(self):
        calls = [row(0), own(0), chosen(0), row(1), listed(), history(), play(), stop(), undo(), redo(), act(15),
                 act(10, 5, 6), row(0), undo(), row(0), copy(), history(), listed()]
        self.assertEqual(ask(*calls), ask(begin(1, 1, 100, [0]), *calls)[1:])
        self.assertEqual(ask(row(0), own(0), chosen(0), row(1)), [[1, 0, 255], [1, 0, 255], [1, 0], [-1]])

    def test_the_budget_is_100_at_first(self):
        told = ask(*[act(4, 0)] * 101)
        self.assertEqual(told[99], [1, 100])
        self.assertEqual(told[100], [1, 100])

    def test_begin_again_forgets_all(self):
        before = [begin(3, 2, 500, [1, 2, 3, 4, 5, 6]), act(0), act(10, 1, 2), record(), act(5, 0, 0, 0, 2, 2), act(14),
                  copy(), undo()]
        after = [history(), listed(), undo(), redo(), act(15), play(), row(0), own(1), chosen(1), act(0), act(1, 1),
                 act(1, 2), stop(), history(), listed()]
        self.assertEqual(ask(*before, begin(2, 2, 30, [9, 8, 7, 6]), *after)[9:],
                         ask(begin(2, 2, 30, [9, 8, 7, 6]), *after)[1:])

    def test_begin_again_takes_its_own_budget(self):
        self.assertEqual(last(begin(1, 1, 0, [0]), begin(1, 1, 2, [0]), act(10, 1, 1)), [2, 1])
        self.assertEqual(last(begin(1, 1, 2, [0]), begin(1, 1, 1, [0]), act(10, 1, 1)), [2, 0])


class HandedInTest(unittest.TestCase):
    def test_the_list_is_not_changed(self):
        calls = flat(MANY_KINDS)
        kept = list(calls)
        answers(calls)
        self.assertEqual(calls, kept)

    def test_the_same_answers_when_asked_twice(self):
        calls = flat(MANY_KINDS)
        first = answers(calls)
        answers(flat([begin(1, 1, 7, [3]), record(), act(14)]))
        self.assertEqual(answers(calls), first)
        self.assertEqual(answers(flat([act(15), play(), stop(), history()])),
                         [1, -6, 2, 0, 0, 1, 0, 4, 0, 0, 0, 0])

    def test_what_is_answered_is_nobody_elses(self):
        calls = flat([begin(1, 1, 7, [3]), row(0)])
        told = answers(calls)
        told.append(5)
        self.assertEqual(answers(calls), [1, 0, 3, 1, 3, 255])


class LongTest(unittest.TestCase):
    def test_120_calls_in_one_list(self):
        calls = [begin(12, 12, 10 ** 6, [k % 256 for k in range(144)])]
        for k in range(59):
            calls.append(act(10, k, 255))
        calls.extend([undo()] * 59)
        calls.append(row(11))
        told = ask(*calls)
        self.assertEqual(len(calls), 120)
        self.assertEqual(len(told), 120)
        self.assertEqual(told[59][1], 59)
        self.assertEqual(told[118], [0, 59])
        self.assertEqual(told[119], [12] + flat([(132 + x, 255) for x in range(12)]))

    def all_thirteen(self):
        """120 calls on the greatest picture, each of the thirteen among them several times."""
        calls = [begin(12, 12, 3000, [k * 7 % 256 for k in range(144)]), record()]
        for k in range(5):
            calls.extend([act(5, 1, k, 2 * k, 4, 3), act(10, 40 * k, 255 - k), act(11, k % 5), act(13, 15 + k % 3, 17),
                          act(12, 1, k, 5), act(8, k)])
        calls.extend([stop(), act(0), play(), copy(), act(15), listed(), history()])
        for k in range(12):
            calls.extend([row(k), own(11 - k), chosen(k), undo() if k % 3 else play(), redo()])
        calls.extend([begin(3, 2, 200, [1, 2, 3, 4, 5, 6]), record(), act(14), act(15), act(18, 2), listed(), stop(),
                      history(), play(), listed(), history(), copy(), act(15), act(16), undo(), undo(), redo(), row(1),
                      own(1), chosen(1), row(3)])
        return calls

    def test_120_calls_with_all_thirteen_among_them(self):
        calls = self.all_thirteen()
        self.assertEqual(len(calls), 120)
        self.assertEqual(sorted({call[0] for call in calls}), list(range(1, 14)))
        handed = flat(calls)
        kept = list(handed)
        first = answers(handed)
        self.assertEqual(handed, kept)
        self.assertEqual(answers(handed), first)
        self.assertEqual(answers(kept), first)
        naive = Naive()
        self.assertEqual(ask(*calls), [naive.told(call) for call in calls])
        self.assertEqual({type(number) for number in first}, {int})

    def test_played_as_often_as_120_calls_allow(self):
        calls = [begin(12, 12, 10 ** 6, [k for k in range(144)]), record(), *[act(18, 2)] * 40, stop(), *[play()] * 76]
        told = ask(*calls, own(0))
        self.assertEqual(len(calls) + 1, 120)
        self.assertEqual(told[-2][0], 40)
        self.assertEqual(told[-1], [12] + flat([(x, 255) for x in range(12)]))

    def test_exactly_16000_numbers(self):
        calls = [begin(12, 12, 9, [3] * 144), record(), *[act(0, *[BIG] * 1024)] * 15]
        calls.extend([act(10, k, 255) for k in range(30)])
        calls.extend([stop(), play(), history(), listed()])
        rest = 16000 - len(flat(calls))
        calls.append(act(10, *[1] * (rest - 3)))
        self.assertEqual(len(flat(calls)), 16000)
        self.assertEqual(ask(*calls)[-5:], [[30], [30, 0], [0, 0, 0, 30], [0, 12, 12, 1, 0, 1, 255, 0], [-3]])

    def test_lists_of_1024_numbers_and_16000_in_all(self):
        long = [begin(12, 12, 9, [0] * 1024), act(13, *([16] * 1024))]
        calls = long * 7 + [act(12, *([1] * 1024)), row(0)]
        self.assertLessEqual(len(flat(calls)), 16000)
        self.assertEqual(ask(*calls), [[-3]] * 15 + [[1, 0, 255]])

    def test_numbers_at_their_greatest(self):
        self.assertEqual(ask([1, BIG, BIG, BIG, 1, BIG], [2, BIG, 1, BIG], row(BIG), own(BIG), chosen(BIG)),
                         [[-1], [-3], [-1], [-1], [-1]])


class RowsTest(unittest.TestCase):
    START = begin(2, 3, 50, [1, 2, 3, 4, 5, 6])

    def test_rows_are_numbered_from_0(self):
        self.assertEqual(ask(self.START, row(0), row(1), row(2))[1:],
                         [[2, 1, 255, 2, 255], [2, 3, 255, 4, 255], [2, 5, 255, 6, 255]])

    def test_own_is_of_the_layer_worked_on(self):
        self.assertEqual(ask(self.START, act(0), own(1), row(1), act(4, 0), own(1))[2:],
                         [[2, 0, 0, 0, 0], [2, 3, 255, 4, 255], [1, 2], [2, 3, 255, 4, 255]])

    def test_own_tells_the_dot_as_it_is(self):
        self.assertEqual(ask(self.START, act(10, 9, 0), own(0), row(0))[2:], [[2, 9, 0, 9, 0], [2, 0, 0, 0, 0]])
        self.assertEqual(ask(self.START, act(3, 0, 0, 10, 3), own(0), row(0))[2:],
                         [[2, 1, 255, 2, 255], [2, 0, 0, 0, 0]])

    def test_chosen_tells_each_pixel(self):
        self.assertEqual(ask(self.START, chosen(1), act(5, 0, 1, 1, 1, 2), chosen(0), chosen(1), chosen(2))[1:],
                         [[2, 0, 0], [3, 1], [2, 0, 0], [2, 0, 1], [2, 0, 1]])

    def test_no_such_row(self):
        for call in (row, own, chosen):
            self.assertEqual(last(self.START, call(3)), [-1])
            self.assertEqual(last(self.START, call(BIG)), [-1])

    def test_rows_follow_the_height(self):
        self.assertEqual(ask(self.START, act(18, 2), row(1), row(2))[2:], [[3, 6, 255, 4, 255, 2, 255], [-1]])

    def test_looking_changes_nothing(self):
        before = [self.START, act(0), act(10, 4, 5), undo()]
        self.assertEqual(everything(3, *before, row(0), own(1), chosen(2), row(3), own(3), chosen(3)),
                         everything(3, *before))
        self.assertEqual(last(*before, row(0), own(0), chosen(0), redo()), last(*before, redo()))


class BeginTest(unittest.TestCase):
    def test_a_picture_of_one_layer(self):
        told = ask(begin(2, 2, 9, [0, 255, 17, 3]), row(0), row(1), own(0), chosen(0), undo(), redo(), act(2, 0),
                   act(1, 0), act(4, 1), act(15))
        self.assertEqual(told, [[0], [2, 0, 255, 255, 255], [2, 17, 255, 3, 255], [2, 0, 255, 255, 255], [2, 0, 0],
                                [-6], [-6], [-6], [-6], [-2], [-6]])

    def test_sides_from_1_to_12(self):
        for w in range(1, 13):
            for h in (1, 7, 12):
                self.assertEqual(last(begin(w, h, 9, [5] * (w * h))), [0])
                self.assertEqual(last(begin(h, w, 9, [5] * (w * h))), [0])
        for side in (0, 13, BIG):
            self.assertEqual(last(begin(side, 1, 9, [5] * min(side, 13))), [-1])
            self.assertEqual(last(begin(1, side, 9, [5] * min(side, 13))), [-1])

    def test_budget_up_to_a_million(self):
        self.assertEqual(last(begin(1, 1, 0, [5])), [0])
        self.assertEqual(last(begin(1, 1, 1000000, [5])), [0])
        self.assertEqual(last(begin(1, 1, 1000001, [5])), [-1])
        self.assertEqual(last(begin(1, 1, BIG, [5])), [-1])

    def test_as_many_colours_up_to_255(self):
        for colours in ([], [1] * 5, [1] * 7, [1] * 1024, [0, 0, 0, 0, 0, 256], [BIG, 0, 0, 0, 0, 0]):
            self.assertEqual(last(begin(2, 3, 9, colours)), [-3])
        self.assertEqual(last(begin(2, 3, 9, [255] * 6)), [0])

    def test_of_several_refusals_the_first_told(self):
        self.assertEqual(last(begin(0, 3, 9, [])), [-1])
        self.assertEqual(last(begin(2, 13, 9, [300])), [-1])
        self.assertEqual(last(begin(2, 2, 1000001, [1, 2, 3, 256])), [-1])

    def test_refused_all_is_as_it_was(self):
        before = [begin(2, 2, 60, [1, 2, 3, 4]), act(5, 0, 0, 0, 1, 1), act(14), act(0), undo()]
        after = [redo(), undo(), undo(), undo(), undo(), redo(), act(15), own(0)]
        for refused in (begin(0, 1, 5, []), begin(1, 1, BIG, [1]), begin(1, 1, 5, []), begin(1, 1, 5, [256])):
            self.assertEqual(everything(2, *before, refused), everything(2, *before))
            self.assertEqual(ask(*before, refused, *after)[6:], ask(*before, *after)[5:])


if __name__ == "__main__":
    unittest.main()
