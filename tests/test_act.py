"""What holds for all deeds alike: refusals of act, their order, and that a refused deed leaves all."""

import unittest

from helper import BIG, Naive, act, ask, begin, everything, last, redo, undo

BEFORE = [begin(3, 2, 500, [1, 2, 3, 4, 5, 6]), act(0), act(10, 9, 99), act(5, 0, 1, 0, 2, 1), act(14), act(7, 0),
          undo()]
AFTER = [redo(), undo(), undo(), undo(), undo(), undo(), undo(), redo(), act(15), act(4, 0), act(4, 1), act(4, 2)]


class NoSuchDeedTest(unittest.TestCase):
    def test_no_such_deed(self):
        for deed in (19, 20, 255, BIG):
            for more in ((), (0,), (1, 2, 3)):
                self.assertEqual(last(act(deed, *more)), [-3])

    def test_told_too_few_or_too_many(self):
        for deed, many in Naive.COUNTS.items():
            for told in range(9):
                if told != many:
                    self.assertEqual(last(*BEFORE, act(deed, *[0] * told)), [-3], (deed, told))
            self.assertEqual(last(*BEFORE, act(deed, *[BIG] * 1024)), [-3])

    def test_told_as_many_as_it_should_be(self):
        for deed, many in Naive.COUNTS.items():
            self.assertNotEqual(last(*BEFORE, act(deed, *[0] * many)), [-3], deed)

    def test_wrong_count_is_told_ahead_of_all_else(self):
        five = [act(0)] * 4
        for refused in (act(0, 1), act(1, 9, 9), act(3, 9, 9, 9), act(5, 9), act(10, 256), act(15, 1), act(16, 1)):
            self.assertEqual(last(*five, refused), [-3])


class RefusedTest(unittest.TestCase):
    REFUSED = [act(19), act(0, 0), act(1, 7), act(2, 1), act(2, 7), act(3, 0, 2, 0, 0), act(3, 7, 1, 0, 0), act(4, 7),
               act(5, 5, 0, 0, 1, 1), act(6, 0, 3, 0, 0, 0, 0), act(7, 5), act(8, 1001), act(9, 1001), act(10, 256, 0),
               act(11, 5), act(12, 1, 2, 1), act(13, 33, 0), act(14, 1), act(15, 1), act(18, 3)]

    def test_all_is_as_it_was(self):
        for refused in self.REFUSED:
            told = last(*BEFORE, refused)
            self.assertEqual(len(told), 1)
            self.assertLess(told[0], 0)
            self.assertEqual(everything(2, *BEFORE, refused), everything(2, *BEFORE))
            self.assertEqual(ask(*BEFORE, refused, *AFTER)[len(BEFORE) + 1:], ask(*BEFORE, *AFTER)[len(BEFORE):])

    def test_refused_by_what_there_is(self):
        full = [begin(2, 1, 500, [1, 2]), act(14), *[act(0)] * 4]
        for calls, refused, number in ((full, act(0), -5), (full, act(15), -5), (full, act(17), -6),
                                       ([*full, act(4, 0)], act(16), -6), ([], act(1, 0), -6), ([], act(15), -6)):
            self.assertEqual(last(*calls, refused), [number])
            self.assertEqual(everything(1, *calls, refused), everything(1, *calls))
            after = [act(1, 4), act(0), undo(), undo(), undo()]
            self.assertEqual(ask(*calls, refused, *after)[len(calls) + 1:], ask(*calls, *after)[len(calls):])


if __name__ == "__main__":
    unittest.main()
