"""Long lists of calls of every kind, compared with the naive editor."""

import random
import unittest

from helper import BIG, Naive, act, all_rows, ask, begin, copy, history, listed, play, record, redo, stop, undo

LIMITS = {1: [6], 2: [6], 3: [6, 2, 256, 7], 4: [6], 5: [5, 13, 13, 14, 14], 6: [5, 12, 12, 80, 1, 1], 7: [5],
          8: [9], 9: [3], 10: [255, 255], 11: [3], 12: [3, 4, 4], 13: [32, 32], 18: [2]}


def some_deed(source, w, h):
    deed = source.choice([0, 0, 1, 2, 3, 3, 3, 4, 4, 5, 5, 5, 6, 6, 7, 8, 9, 10, 10, 10, 11, 12, 13, 13, 14, 14,
                          15, 15, 16, 17, 18, 18])
    more = [source.randint(0, top) for top in LIMITS.get(deed, [])]
    if deed == 6 and source.random() < 0.9:
        more[0], more[1], more[2] = more[0] % 5, more[1] % w, more[2] % h
    if deed == 13 and source.random() < 0.8:
        more = [16 + source.randint(-3, 3), 16 + source.randint(-3, 3)]
    if more and source.random() < 0.03:
        more[source.randrange(len(more))] = source.choice([BIG, 256, 1001])
    if source.random() < 0.02:
        more = more + [0]
    if source.random() < 0.01:
        deed = source.choice([19, BIG])
    return act(deed, *more)


def some_begin(source):
    w, h = source.choice([(1, 1), (12, 12), (3, 5), (6, 2), (1, 7), (4, 4), (5, 5)])
    w, h = source.choice([(w, h), (source.randint(1, 12), source.randint(1, 12))])
    return w, h, begin(w, h, source.choice([0, 1, 30, 200, 1000, 10 ** 6]), [
        source.choice([0, 255, 128, source.randint(0, 255)]) for _ in range(w * h)])


def some_call(source, w, h, kinds):
    """A call of one of these kinds, by how often each is drawn."""
    kind = source.choices(list(kinds), list(kinds.values()))[0]
    if kind == "act":
        return some_deed(source, w, h)
    if kind == "begin":
        return some_begin(source)[2]
    if kind == "look":
        return source.choice(all_rows(h) + [listed(), history()] * 3)
    return {"undo": undo, "redo": redo, "copy": copy, "record": record, "stop": stop, "play": play}[kind]()


class NaiveTest(unittest.TestCase):
    def compare(self, seed, kinds):
        source = random.Random(seed)
        w, h, call = some_begin(source)
        calls = [call] + [some_call(source, w, h, kinds) for _ in range(119)]
        naive = Naive()
        expected = [naive.told(call) for call in calls]
        for call, told, wanted in zip(calls, ask(*calls), expected):
            self.assertEqual(told, wanted, (seed, call))

    def test_deeds_undone_and_redone(self):
        for seed in range(200):
            self.compare(seed, {"act": 620, "undo": 100, "redo": 80, "begin": 3, "look": 197})

    def test_copied_recorded_and_played(self):
        for seed in range(1000, 1150):
            self.compare(seed, {"act": 450, "undo": 60, "redo": 40, "begin": 3, "look": 250, "copy": 40, "record": 30,
                                "stop": 60, "play": 67})

    def test_recorded_till_no_more_are(self):
        for seed in range(2000, 2040):
            self.compare(seed, {"act": 850, "undo": 20, "redo": 20, "look": 80, "copy": 20, "record": 15, "play": 10,
                                "stop": 3})


if __name__ == "__main__":
    unittest.main()
