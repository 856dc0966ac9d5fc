"""What is shown: layers put together in exact fractions, by each way."""

import random
import unittest

from helper import act, ask, begin, blended, last, row


def stacked(stack):
    """The calls for one pixel with these layers, from below: (seen, strong, way, colour, cover)."""
    calls = [begin(1, 1, 999, [0])]
    for number, (seen, strong, way, colour, cover) in enumerate(stack):
        if number:
            calls.append(act(0))
        calls.extend([act(10, colour, cover), act(3, number, seen, strong, way)])
    return calls


def shown(*stack):
    return tuple(last(*stacked(stack), row(0))[1:])


class OneLayerTest(unittest.TestCase):
    def test_as_it_is(self):
        for colour, cover in ((0, 255), (255, 1), (17, 128)):
            self.assertEqual(shown((1, 255, 0, colour, cover)), (colour, cover))

    def test_cover_times_strength(self):
        self.assertEqual(shown((1, 100, 0, 9, 200)), (9, 78))
        self.assertEqual(shown((1, 128, 0, 9, 128)), (9, 64))
        self.assertEqual(shown((1, 1, 0, 9, 128)), (9, 1))

    def test_both_0_where_nothing_is_covered(self):
        self.assertEqual(shown((1, 255, 0, 9, 0)), (0, 0))
        self.assertEqual(shown((1, 0, 0, 9, 255)), (0, 0))
        self.assertEqual(shown((0, 255, 0, 9, 255)), (0, 0))

    def test_both_0_where_the_cover_is_rounded_to_0(self):
        self.assertEqual(shown((1, 1, 0, 200, 127)), (0, 0))
        self.assertEqual(shown((1, 1, 0, 200, 1)), (0, 0))

    def test_over_nothing_the_way_makes_no_difference(self):
        for way in range(7):
            self.assertEqual(shown((1, 200, way, 90, 100)), (90, 78))


class WayTest(unittest.TestCase):
    def test_over_full_cover(self):
        below = (1, 255, 0, 100, 255)
        for way, colour in ((0, 200), (1, 78), (2, 222), (3, 100), (4, 200), (5, 100), (6, 255)):
            self.assertEqual(shown(below, (1, 255, way, 200, 255)), (colour, 255))
        for way, colour in ((0, 60), (1, 24), (2, 136), (3, 60), (4, 100), (5, 40), (6, 160)):
            self.assertEqual(shown(below, (1, 255, way, 60, 255)), (colour, 255))

    def test_upper_one_covering_a_fifth(self):
        below = (1, 255, 0, 100, 255)
        for way, colour in ((0, 120), (1, 96), (2, 124), (3, 100), (4, 120), (5, 100), (6, 131)):
            self.assertEqual(shown(below, (1, 255, way, 200, 51)), (colour, 255))

    # Below covers 2/3, above 2/5: alone 2/15 of S and 6/15 of B, both 4/15 of M, 12/15 in all.
    def test_both_covering_a_part(self):
        below = (1, 255, 0, 60, 170)
        for way, colour in ((0, 80), (1, 55), (2, 92), (3, 67), (4, 80), (5, 60), (6, 100)):
            self.assertEqual(shown(below, (1, 255, way, 100, 102)), (colour, 204))
            self.assertEqual(shown(below, (1, 102, way, 100, 255)), (colour, 204))

    def test_a_half_up(self):
        self.assertEqual(shown((1, 255, 0, 10, 170), (1, 255, 0, 11, 102)), (11, 204))
        self.assertEqual(shown((1, 255, 0, 11, 170), (1, 255, 0, 10, 102)), (11, 204))
        self.assertEqual(shown((1, 255, 0, 254, 170), (1, 255, 0, 255, 102)), (255, 204))
        self.assertEqual(shown((1, 170, 0, 10, 255), (1, 102, 0, 13, 255)), (12, 204))

    def test_not_more_than_the_whole(self):
        self.assertEqual(shown((1, 255, 0, 255, 255), (1, 255, 6, 255, 255)), (255, 255))
        self.assertEqual(shown((1, 255, 0, 128, 255), (1, 255, 6, 127, 255)), (255, 255))
        self.assertEqual(shown((1, 255, 0, 128, 255), (1, 255, 6, 126, 255)), (254, 255))

    def test_no_rounding_on_the_way(self):
        thin = (1, 1, 0, 255, 100)
        self.assertEqual(shown(thin), (0, 0))
        self.assertEqual(shown(thin, thin), (255, 1))


class StackTest(unittest.TestCase):
    def test_from_below_to_above(self):
        self.assertEqual(shown((1, 255, 0, 1, 255), (1, 255, 0, 2, 255), (1, 255, 0, 3, 255)), (3, 255))
        self.assertEqual(shown((1, 255, 0, 100, 255), (1, 255, 5, 30, 255), (1, 255, 1, 51, 255)), (14, 255))

    def test_layers_not_seen_are_left_out(self):
        self.assertEqual(shown((1, 255, 0, 1, 255), (0, 255, 0, 2, 255)), (1, 255))
        self.assertEqual(shown((0, 255, 0, 1, 255), (1, 255, 1, 2, 200)), (2, 200))
        self.assertEqual(shown((0, 255, 0, 1, 255), (0, 255, 1, 2, 200)), (0, 0))

    def test_colour_below_of_no_cover_is_0(self):
        for way in range(7):
            self.assertEqual(shown((1, 255, 0, 200, 0), (1, 255, way, 90, 255)), (90, 255))

    def test_as_fractions_tell(self):
        source = random.Random(7)
        values = [0, 1, 2, 51, 85, 102, 127, 128, 170, 254, 255]
        for _ in range(1500):
            stack = []
            for _ in range(source.randint(1, 5)):
                stack.append((int(source.random() < 0.9), source.choice(values + [source.randint(0, 255)]),
                              source.randint(0, 6), source.choice(values + [source.randint(0, 255)]),
                              source.choice(values + [source.randint(0, 255)])))
            self.assertEqual(shown(*stack), blended(stack), stack)

    def test_each_pixel_by_itself(self):
        told = ask(begin(2, 2, 99, [1, 2, 3, 4]), act(0), act(5, 0, 1, 0, 1, 2), act(10, 104, 51), row(0), row(1))
        self.assertEqual(told[4:], [[2, 1, 255, 22, 255], [2, 3, 255, 24, 255]])


if __name__ == "__main__":
    unittest.main()
