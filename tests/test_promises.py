"""The promises 1, 2, 3 and 5 as they stand, on pictures of several sizes."""

import random
import unittest

from helper import act, ask, begin, look, redo, row, shown, undo

SIZES = ((1, 1), (12, 12), (3, 7), (7, 3), (1, 12), (12, 1), (5, 5))


def some_colours(source, w, h):
    return [source.randint(0, 255) for _ in range(w * h)]


def keeps_size(source, w, h):
    """A deed that leaves w and h, drawn so that it is mostly not refused."""
    x, y = source.randrange(w), source.randrange(h)
    return source.choice([
        act(0), act(1, source.randint(0, 3)), act(2, source.randint(0, 3)), act(4, source.randint(0, 3)),
        act(3, source.randint(0, 2), source.randint(0, 1), source.randint(0, 255), source.randint(0, 6)),
        act(5, source.randint(0, 4), x, y, source.randint(1, 4), source.randint(1, 4)),
        act(6, source.randint(0, 4), x, y, source.randint(0, 120), source.randint(0, 1), source.randint(0, 1)),
        act(7, source.randint(0, 4)), act(8, source.randint(0, 9)), act(9, source.randint(0, 3)),
        act(10, source.randint(0, 255), source.randint(0, 255)), act(11, source.randint(0, 4)),
        act(12, source.randint(0, 4), source.randint(0, 5), 5), act(14), act(15), act(16),
        act(13, source.randint(13, 19), source.randint(13, 19)), act(18, source.randint(0, 1))])


def done(told):
    return told[0] >= 0


class UndoneTest(unittest.TestCase):
    """Promise 1."""

    def test_undone_the_pictures_that_were_and_redone_again(self):
        for seed, (w, h) in enumerate(SIZES * 3):
            source = random.Random(seed)
            calls = [begin(w, h, source.choice([60, 10 ** 6]), some_colours(source, w, h))]
            seen = [look(h, *calls)]
            while len(seen) < 14:
                calls.append(keeps_size(source, w, h))
                if done(ask(*calls)[-1]):
                    seen.append(look(h, *calls))
                else:
                    calls.pop()
            kept = ask(*calls)[-1][1]
            for back in range(kept + 1):
                self.assertEqual(look(h, *calls, *[undo()] * back), seen[-1 - back], seed)
                self.assertEqual(look(h, *calls, *[undo()] * kept, *[redo()] * back), seen[len(seen) - 1 - kept + back])
            self.assertEqual(ask(*calls, *[undo()] * (kept + 1))[-1], [-6])
            self.assertEqual(ask(*calls, *[undo()] * kept, *[redo()] * (kept + 1))[-1], [-6])


class BudgetTest(unittest.TestCase):
    """Promise 2."""

    def test_as_much_of_the_latest_as_the_budget_allows(self):
        for seed, (w, h) in enumerate(SIZES * 3):
            source = random.Random(seed)
            budget = source.choice([0, 1, 5, 40, 150, 400])
            calls = [begin(w, h, budget, some_colours(source, w, h))]
            calls.extend([keeps_size(source, w, h) for _ in range(70)])
            costs = []
            for told in ask(*calls)[1:]:
                if not done(told):
                    continue
                costs = [told[0]] + costs
                kept = told[1]
                self.assertLessEqual(sum(costs[:kept]), budget)
                if kept < len(costs):
                    self.assertGreater(sum(costs[:kept + 1]), budget)
                costs = costs[:kept]


class OnlyChosenTest(unittest.TestCase):
    """Promise 3."""

    DEEDS = (act(10, 3, 77), act(11, 1), act(11, 4), act(12, 2, 1, 2), act(12, 4, 1, 1), act(14))

    def test_only_what_may_change_changes_on_the_layer_worked_on(self):
        for seed, (w, h) in enumerate(SIZES * 2):
            source = random.Random(seed)
            for deed in self.DEEDS:
                calls = [begin(w, h, 999, some_colours(source, w, h)), act(0), act(10, 200, 200), act(0),
                         act(6, 0, 0, 0, 0, 0, 0), act(10, 8, 9), act(4, source.randint(0, 2)),
                         act(5, 0, source.randrange(w), source.randrange(h), source.randint(0, 4), 3)]
                before, after = look(h, *calls), look(h, *calls, deed)
                free = [told[1:] for told in before[2::3]]
                if not any(map(any, free)):
                    free = [[1] * w] * h
                for old, new, marks in zip(before[1::3], after[1::3], free):
                    for x, mark in enumerate(marks):
                        if not mark:
                            self.assertEqual(old[1 + 2 * x:3 + 2 * x], new[1 + 2 * x:3 + 2 * x])
                self.assertEqual(before[2::3], after[2::3])
                self.assert_other_layers_stay(h, calls, deed)

    def assert_other_layers_stay(self, h, calls, deed):
        worked = calls[-2][3]
        for i in range(3):
            if i != worked:
                self.assertEqual(look(h, *calls, deed, act(4, i))[1::3], look(h, *calls, act(4, i))[1::3])


class AsItWasTest(unittest.TestCase):
    """Promise 5."""

    def test_turned_back_all_is_as_it_was(self):
        for seed, (w, h) in enumerate(SIZES):
            source = random.Random(seed)
            calls = [begin(w, h, 10 ** 6, some_colours(source, w, h))]
            calls.extend([keeps_size(source, w, h) for _ in range(20)])
            for turns in ([act(18, 0)] * 2, [act(18, 1)] * 2, [act(18, 2)] * 4):
                self.assertEqual(look(h, *calls, *turns), look(h, *calls))
                for i in range(5):
                    self.assertEqual(look(h, *calls, *turns, act(4, i)), look(h, *calls, act(4, i)))

    def test_turned_less_often_it_is_not(self):
        start = begin(2, 2, 99, [1, 2, 3, 4])
        for turns in ([act(18, 0)], [act(18, 1)], [act(18, 2)], [act(18, 2)] * 2, [act(18, 2)] * 3):
            self.assertNotEqual(look(2, start, *turns), look(2, start))

    def test_cut_and_pasted_shows_what_it_did(self):
        for seed, (w, h) in enumerate(SIZES * 3):
            source = random.Random(seed)
            calls = [begin(w, h, 10 ** 6, some_colours(source, w, h))]
            for _ in range(4):
                calls.append(act(5, 0, source.randrange(w), source.randrange(h), 3, 2))
                calls.append(act(10, source.randint(0, 255), source.choice([0, 1, 255, source.randint(0, 255)])))
            for choice in (act(7, 2), act(7, 0), act(6, 4, 0, 0, 60, 0, 1), act(5, 0, 0, 0, 1, 1)):
                self.assertEqual(shown(h, *calls, choice, act(14), act(15)), shown(h, *calls, choice))

    def test_two_layers_put_together_show_what_they_did(self):
        for seed, (w, h) in enumerate(SIZES * 4):
            source = random.Random(seed)
            calls = [begin(w, h, 10 ** 6, some_colours(source, w, h))]
            for number in range(2):
                for _ in range(4):
                    calls.append(act(5, 0, source.randrange(w), source.randrange(h), 3, 2))
                    calls.append(act(10, source.randint(0, 255), source.choice([0, 1, 255, source.randint(0, 255)])))
                calls.append(act(3, number, int(source.random() < 0.8), source.randint(0, 255), source.randint(0, 6)))
                calls.append(act(0) if number == 0 else act(4, 1))
            self.assertEqual(shown(h, *calls, act(16)), shown(h, *calls))


class TurnedSizesTest(unittest.TestCase):
    def test_every_row_is_there_behind_a_quarter(self):
        for w, h in SIZES:
            calls = [begin(w, h, 9, list(range(w * h))), act(18, 2)]
            told = ask(*calls, *[row(y) for y in range(w)])[2:]
            self.assertEqual([numbers[0] for numbers in told], [h] * w)
            self.assertEqual(ask(*calls, row(w))[-1], [-1])


if __name__ == "__main__":
    unittest.main()
