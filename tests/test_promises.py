"""The promises as they stand, on pictures of several sizes, also behind copy, record, stop and play."""

import random
import unittest

from helper import (act, ask, begin, copy, everything, history, listed, look, play, record, redo, row, shown, stop,
                    undo)

SIZES = ((1, 1), (12, 12), (3, 7), (7, 3), (1, 12), (12, 1), (5, 5))


def some_colours(source, w, h):
    return [source.randint(0, 255) for _ in range(w * h)]


def keeps_size(source, w, h):
    """A deed that leaves w and h, drawn so that it is mostly not refused."""
    x, y = source.randrange(w), source.randrange(h)
    return source.choice([
        act(0), act(1, source.randint(0, 3)), act(2, source.randint(0, 3)), act(4, source.randint(0, 3)),
        act(3, source.randint(0, 2), source.randint(0, 1), source.randint(0, 255), source.randint(0, 6)),
        act(5, source.randint(0, 4), x, y, source.randint(1, 4), source.randint(1, 4)),
        act(6, source.randint(0, 4), x, y, source.randint(0, 120), source.randint(0, 1), source.randint(0, 1)),
        act(7, source.randint(0, 4)), act(8, source.randint(0, 9)), act(9, source.randint(0, 3)),
        act(10, source.randint(0, 255), source.randint(0, 255)), act(11, source.randint(0, 4)),
        act(12, source.randint(0, 4), source.randint(0, 5), 5), act(14), act(15), act(16),
        act(13, source.randint(13, 19), source.randint(13, 19)), act(18, source.randint(0, 1))])


def done(told):
    return told[0] >= 0


def some_session(source, w, h, budget, many):
    """A picture, and deeds of which some are recorded and played; what is aside changes now and then."""
    calls = [begin(w, h, budget, some_colours(source, w, h))]
    for _ in range(many):
        draw = source.random()
        if draw < 0.6:
            calls.append(keeps_size(source, w, h))
        else:
            calls.append(source.choice([copy(), record(), stop(), play(), play(), undo(), redo()]))
    return calls + [stop(), play()]


def played_out(calls):
    """The same calls with each play replaced by the deeds that are recorded, one behind another, till one is refused;
    and what each play should answer."""
    out, expected = [], []
    tape, taping = [], False
    for call in calls:
        if call == play() and taping:
            expected.append([-6])
        elif call == play():
            deeds = []
            while len(deeds) < len(tape) and done(ask(*out, *deeds, tape[len(deeds)])[-1]):
                deeds.append(tape[len(deeds)])
            out.extend(deeds)
            expected.append([len(deeds), ask(*out, history())[-1][0]])
        else:
            out.append(call)
            if call == record():
                tape, taping = [], True
            elif call == stop():
                taping = False
            elif call[0] == 2 and taping and done(ask(*out)[-1]):
                tape.append(call)
    return out, expected


class PlayedTest(unittest.TestCase):
    """Promise 4."""

    def assert_played_as_done(self, h, calls):
        out, expected = played_out(calls)
        told = ask(*calls)
        self.assertEqual([answer for call, answer in zip(calls, told) if call == play()], expected)
        self.assertEqual(everything(h, *calls), everything(h, *out))
        kept = ask(*out, history())[-1][0]
        for after in ([undo()] * kept, [undo()] * (kept + 1) + [redo()] * (kept // 2), [redo()], [act(15), act(4, 0)],
                      [act(1, 0), act(0)]):
            self.assertEqual(everything(h, *calls, *after), everything(h, *out, *after))
            self.assertEqual(ask(*calls, *after)[len(calls):], ask(*out, *after)[len(out):])

    def test_as_these_deeds_would_do(self):
        for seed, (w, h) in enumerate(SIZES * 8):
            source = random.Random(seed)
            budget = source.choice([0, 1, 5, 40, 150, 400, 10 ** 6])
            self.assert_played_as_done(h, some_session(source, w, h, budget, 25))

    def test_each_deed_by_itself(self):
        start = [begin(3, 3, 500, [7, 90, 30, 4, 5, 200, 9, 9, 60]), act(0), act(10, 90, 100), act(5, 0, 1, 0, 2, 2)]
        for deed in (act(0), act(1, 0), act(1, 1), act(2, 0), act(3, 1, 1, 50, 5), act(4, 0), act(5, 4, 0, 1, 2, 1),
                     act(6, 1, 0, 0, 40, 1, 0), act(7, 4), act(8, 1), act(9, 1), act(10, 3, 4), act(11, 1),
                     act(12, 1, 1, 2), act(13, 15, 17), act(14), act(15), act(16), act(17), act(18, 0), act(18, 1),
                     act(18, 2)):
            for between in ([], [undo()], [act(4, 0), copy()], [act(7, 0), act(14), undo()]):
                for budget in (500, 12):
                    begun = [begin(3, 3, budget, start[0][5:]), *start[1:]]
                    self.assert_played_as_done(1, [*begun, copy(), record(), deed, stop(), *between, play(), play()])

    def test_cropped_and_turned(self):
        deeds = [act(5, 0, 1, 0, 5, 9), act(17), act(18, 2), act(14), act(15), act(13, 17, 15), act(16)]
        for w, h in SIZES:
            for budget in (0, 30, 300, 10 ** 6):
                calls = [begin(w, h, budget, [k % 256 for k in range(w * h)]), record(), *deeds, stop()]
                for times in (1, 2, 3):
                    self.assert_played_as_done(1, [*calls, *[play()] * times])
                self.assert_played_as_done(1, [*calls, undo(), undo(), play(), undo(), play()])


class UndoneTest(unittest.TestCase):
    """Promise 1."""

    def test_undone_behind_copy_record_stop_and_play(self):
        for seed, (w, h) in enumerate(SIZES * 3):
            source = random.Random(seed)
            deeds = [keeps_size(source, w, h) for _ in range(8)]
            calls = [begin(w, h, source.choice([60, 10 ** 6]), some_colours(source, w, h)), copy(), act(0), record(),
                     *deeds, copy(), stop(), act(4, 0), play(), copy(), record(), stop()]
            steps, _ = played_out(calls)
            kept = ask(*calls, history())[-1][0]
            seen = []
            for place, call in enumerate(steps):
                if call[0] == 1 or (call[0] == 2 and done(ask(*steps[:place + 1])[-1])):
                    seen.append(self.pictures(h, *steps[:place + 1]))
            for back in range(kept + 1):
                self.assertEqual(self.pictures(h, *calls, *[undo()] * back), seen[-1 - back], seed)
                again = [*[undo()] * back, copy(), record(), stop(), play(), *[redo()] * back]
                self.assertEqual(self.pictures(h, *calls, *again), seen[-1], seed)
            self.assertEqual(ask(*calls, *[undo()] * (kept + 1))[-1], [-6])

    def pictures(self, h, *calls):
        return look(h, *calls) + [ask(*calls, listed())[-1]]

    def test_undone_the_pictures_that_were_and_redone_again(self):
        for seed, (w, h) in enumerate(SIZES * 3):
            source = random.Random(seed)
            calls = [begin(w, h, source.choice([60, 10 ** 6]), some_colours(source, w, h))]
            seen = [look(h, *calls)]
            while len(seen) < 14:
                calls.append(keeps_size(source, w, h))
                if done(ask(*calls)[-1]):
                    seen.append(look(h, *calls))
                else:
                    calls.pop()
            kept = ask(*calls)[-1][1]
            for back in range(kept + 1):
                self.assertEqual(look(h, *calls, *[undo()] * back), seen[-1 - back], seed)
                self.assertEqual(look(h, *calls, *[undo()] * kept, *[redo()] * back), seen[len(seen) - 1 - kept + back])
            self.assertEqual(ask(*calls, *[undo()] * (kept + 1))[-1], [-6])
            self.assertEqual(ask(*calls, *[undo()] * kept, *[redo()] * (kept + 1))[-1], [-6])


class BudgetTest(unittest.TestCase):
    """Promise 2."""

    def test_as_much_of_the_latest_as_the_budget_allows(self):
        for seed, (w, h) in enumerate(SIZES * 3):
            source = random.Random(seed)
            budget = source.choice([0, 1, 5, 40, 150, 400])
            calls = [begin(w, h, budget, some_colours(source, w, h))]
            calls.extend([keeps_size(source, w, h) for _ in range(70)])
            costs = []
            for told in ask(*calls)[1:]:
                if not done(told):
                    continue
                costs = [told[0]] + costs
                kept = told[1]
                self.assertLessEqual(sum(costs[:kept]), budget)
                if kept < len(costs):
                    self.assertGreater(sum(costs[:kept + 1]), budget)
                costs = costs[:kept]

    def test_when_played_too(self):
        for seed, (w, h) in enumerate(SIZES * 3):
            source = random.Random(seed)
            budget = source.choice([0, 1, 5, 40, 150, 400])
            calls = [call for call in some_session(source, w, h, budget, 40) if call not in (undo(), redo())]
            steps, _ = played_out(calls)
            costs = []
            for told in [told for call, told in zip(steps, ask(*steps)) if call[0] == 2 and done(told)]:
                costs = [told[0]] + costs
                self.assertLessEqual(sum(costs[:told[1]]), budget)
                if told[1] < len(costs):
                    self.assertGreater(sum(costs[:told[1] + 1]), budget)
                costs = costs[:told[1]]
            self.assertEqual(ask(*calls, history())[-1][:3], [len(costs), sum(costs), 0])


class OnlyChosenTest(unittest.TestCase):
    """Promise 3."""

    DEEDS = (act(10, 3, 77), act(11, 1), act(11, 4), act(12, 2, 1, 2), act(12, 4, 1, 1), act(14))

    def some_layers(self, source, w, h, worked):
        return [begin(w, h, 999, some_colours(source, w, h)), act(0), act(10, 200, 200), act(0),
                act(6, 0, 0, 0, 0, 0, 0), act(10, 8, 9), act(4, worked),
                act(5, 0, source.randrange(w), source.randrange(h), source.randint(0, 4), 3)]

    def assert_only_what_may_change(self, w, h, worked, calls, doing):
        before, after = look(h, *calls), look(h, *calls, *doing)
        free = [told[1:] for told in before[2::3]]
        if not any(map(any, free)):
            free = [[1] * w] * h
        for old, new, marks in zip(before[1::3], after[1::3], free):
            for x, mark in enumerate(marks):
                if not mark:
                    self.assertEqual(old[1 + 2 * x:3 + 2 * x], new[1 + 2 * x:3 + 2 * x])
        self.assertEqual(before[2::3], after[2::3])
        self.assertEqual(ask(*calls, listed())[-1], ask(*calls, *doing, listed())[-1])
        for i in range(3):
            if i != worked:
                self.assertEqual(look(h, *calls, *doing, act(4, i))[1::3], look(h, *calls, act(4, i))[1::3])

    def test_only_what_may_change_changes_on_the_layer_worked_on(self):
        for seed, (w, h) in enumerate(SIZES * 2):
            source = random.Random(seed)
            for deed in self.DEEDS:
                worked = source.randint(0, 2)
                self.assert_only_what_may_change(w, h, worked, self.some_layers(source, w, h, worked), [deed])

    def test_when_played_too(self):
        for seed, (w, h) in enumerate(SIZES * 2):
            source = random.Random(seed)
            for deed in self.DEEDS:
                worked = source.randint(0, 2)
                other = act(5, 4, source.randrange(w), source.randrange(h), 2, 2)
                calls = [*self.some_layers(source, w, h, 1), record(), deed, stop(), undo(), act(4, worked), other]
                self.assert_only_what_may_change(w, h, worked, calls, [play()])
                self.assert_only_what_may_change(w, h, worked, calls, [play(), copy(), play()])


class AsItWasTest(unittest.TestCase):
    """Promise 5."""

    def test_turned_back_all_is_as_it_was(self):
        for seed, (w, h) in enumerate(SIZES):
            source = random.Random(seed)
            calls = [begin(w, h, 10 ** 6, some_colours(source, w, h))]
            calls.extend([keeps_size(source, w, h) for _ in range(20)])
            for turns in ([act(18, 0)] * 2, [act(18, 1)] * 2, [act(18, 2)] * 4):
                self.assertEqual(look(h, *calls, *turns), look(h, *calls))
                for i in range(5):
                    self.assertEqual(look(h, *calls, *turns, act(4, i)), look(h, *calls, act(4, i)))

    def test_turned_back_by_playing(self):
        for seed, (w, h) in enumerate(SIZES):
            source = random.Random(seed)
            calls = [begin(w, h, 10 ** 6, some_colours(source, w, h))]
            calls.extend([keeps_size(source, w, h) for _ in range(20)])
            before = look(h, *calls) + [ask(*calls, listed())[-1]]
            for turn, times in ((act(18, 0), 1), (act(18, 1), 1), (act(18, 2), 3)):
                again = [*calls, copy(), record(), turn, stop(), *[play()] * times]
                self.assertEqual(look(h, *again) + [ask(*again, listed())[-1]], before)

    def test_turned_less_often_it_is_not(self):
        start = begin(2, 2, 99, [1, 2, 3, 4])
        for turns in ([act(18, 0)], [act(18, 1)], [act(18, 2)], [act(18, 2)] * 2, [act(18, 2)] * 3):
            self.assertNotEqual(look(2, start, *turns), look(2, start))

    def test_cut_and_pasted_shows_what_it_did(self):
        for seed, (w, h) in enumerate(SIZES * 3):
            source = random.Random(seed)
            calls = [begin(w, h, 10 ** 6, some_colours(source, w, h))]
            for _ in range(4):
                calls.append(act(5, 0, source.randrange(w), source.randrange(h), 3, 2))
                calls.append(act(10, source.randint(0, 255), source.choice([0, 1, 255, source.randint(0, 255)])))
            for choice in (act(7, 2), act(7, 0), act(6, 4, 0, 0, 60, 0, 1), act(5, 0, 0, 0, 1, 1)):
                self.assertEqual(shown(h, *calls, choice, act(14), act(15)), shown(h, *calls, choice))
                again = [*calls, choice, record(), act(14), act(15), stop(), undo(), undo(), copy(), play()]
                self.assertEqual(shown(h, *again), shown(h, *calls, choice))
                self.assertEqual(ask(*again, listed())[-1], [1, w, h, 2, 0, 1, 255, 0, 1, 1, 255, 0])

    def test_two_layers_put_together_show_what_they_did(self):
        for seed, (w, h) in enumerate(SIZES * 4):
            source = random.Random(seed)
            calls = [begin(w, h, 10 ** 6, some_colours(source, w, h))]
            for number in range(2):
                for _ in range(4):
                    calls.append(act(5, 0, source.randrange(w), source.randrange(h), 3, 2))
                    calls.append(act(10, source.randint(0, 255), source.choice([0, 1, 255, source.randint(0, 255)])))
                calls.append(act(3, number, int(source.random() < 0.8), source.randint(0, 255), source.randint(0, 6)))
                calls.append(act(0) if number == 0 else act(4, 1))
            self.assertEqual(shown(h, *calls, act(16)), shown(h, *calls))
            again = [*calls, record(), act(16), stop(), undo(), copy(), play()]
            self.assertEqual(shown(h, *again), shown(h, *calls))
            self.assertEqual(ask(*again, listed())[-1][:4], [0, w, h, 1])


class TurnedSizesTest(unittest.TestCase):
    def test_every_row_is_there_behind_a_quarter(self):
        for w, h in SIZES:
            calls = [begin(w, h, 9, list(range(w * h))), act(18, 2)]
            told = ask(*calls, *[row(y) for y in range(w)])[2:]
            self.assertEqual([numbers[0] for numbers in told], [h] * w)
            self.assertEqual(ask(*calls, row(w))[-1], [-1])


if __name__ == "__main__":
    unittest.main()
