"""slowest: the longest of the traces that are kept."""

import unittest
from itertools import permutations

from helper import TOP, ask, begin, last, slowest, span, tick

THREE = [span(10, 1, None, 0, 30), span(20, 1, None, 5, 45), span(30, 1, None, 7, 17)]


def slowest_of(n, *told):
    """What is answered when all these are decided; traces that are multiples of 10 are kept."""
    return last(*told, tick(10), slowest(n))


class HowMany(unittest.TestCase):
    def test_none_is_kept(self):
        for n in (0, 1, TOP):
            self.assertEqual(ask(slowest(n)), [[0]])
            self.assertEqual(slowest_of(n, span(11, 1, None, 0, 9)), [0])

    def test_none_is_asked(self):
        self.assertEqual(slowest_of(0, *THREE), [0])

    def test_fewer_than_are_kept(self):
        self.assertEqual(slowest_of(1, *THREE), [1, 20, 40])
        self.assertEqual(slowest_of(2, *THREE), [2, 20, 40, 10, 30])

    def test_as_many_as_are_kept_or_more(self):
        for n in (3, 4, 1000, 1000001, 2 ** 31, 2 ** 32, 2 ** 63 - 1, 2 ** 63, TOP):
            self.assertEqual(slowest_of(n, *THREE), [3, 20, 40, 10, 30, 30, 10], n)

    def test_sixty(self):
        told = [span(trace, 1, None, 0, 1 + trace) for trace in range(60)]
        wanted = [60]
        for trace in range(59, -1, -1):
            wanted += [trace, trace + 1]
        self.assertEqual(last(begin(1, 0, 1), *told, tick(1), slowest(60)), wanted)
        self.assertEqual(last(begin(1, 0, 1), *told, tick(1), slowest(59)), [59] + wanted[1:-2])


class Order(unittest.TestCase):
    def test_as_long_ones_by_their_numbers(self):
        told = [span(30, 1, None, 0, 9), span(200, 1, None, 3, 12), span(40, 1, None, 1, 10), span(100, 1, None, 0, 10)]
        for order in permutations(told):
            self.assertEqual(slowest_of(4, *order), [4, 100, 10, 30, 9, 40, 9, 200, 9])
            self.assertEqual(slowest_of(3, *order), [3, 100, 10, 30, 9, 40, 9])
            self.assertEqual(slowest_of(2, *order), [2, 100, 10, 30, 9])


class HowLong(unittest.TestCase):
    def test_from_the_first_moment_to_the_last_end(self):
        # Neither is the first of them the one that begins first, nor the last the one that ends last.
        told = [span(10, 1, None, 8, 20), span(10, 2, 1, 5, 9), span(10, 3, 1, 25, 34), span(10, 4, 99, 10, 12)]
        for order in permutations(told):
            self.assertEqual(slowest_of(1, *order), [1, 10, 29])

    def test_beyond_the_one_within_nothing(self):
        self.assertEqual(slowest_of(1, span(10, 1, None, 10, 20), span(10, 2, 1, 4, 33)), [1, 10, 29])

    def test_bounds(self):
        self.assertEqual(
            slowest_of(9, span(0, 1, None, 0, 1000000), span(1000000, 1, None, 999999, 1000000)),
            [2, 0, 1000000, 1000000, 1])

    def test_one_that_is_not_whole(self):
        self.assertEqual(slowest_of(9, span(10, 1, 5, 3, 9)), [1, 10, 6])


class WhichTraces(unittest.TestCase):
    def test_not_those_that_are_not_decided(self):
        self.assertEqual(last(*THREE, tick(9), slowest(9)), [0])
        self.assertEqual(last(THREE[0], tick(10), THREE[1], slowest(9)), [1, 10, 30])

    def test_not_those_that_are_dropped(self):
        self.assertEqual(slowest_of(1, span(11, 1, None, 0, 99), *THREE), [1, 20, 40])

    def test_for_whatever_they_are_kept(self):
        self.assertEqual(
            slowest_of(9, span(11, 1, None, 0, 100), span(12, 1, None, 0, 5, failed=1), *THREE),
            [5, 11, 100, 20, 40, 10, 30, 30, 10, 12, 5])

    def test_decided_at_several_times(self):
        self.assertEqual(
            last(THREE[0], tick(10), THREE[1], tick(20), THREE[2], tick(30), slowest(2)), [2, 20, 40, 10, 30])

    def test_later_spans_of_one_that_is_kept(self):
        self.assertEqual(
            last(*THREE, tick(10), span(30, 2, 1, 3, 60), slowest(9)), [3, 30, 57, 20, 40, 10, 30])

    def test_later_spans_of_one_that_is_dropped(self):
        self.assertEqual(
            ask(span(11, 1, None, 0, 5), tick(10), span(11, 2, 1, 0, 900), slowest(9), tick(99), slowest(9))[1:],
            [[1, 11, 0], [2], [0], [0], [0]])

    def test_begin_clears_it(self):
        self.assertEqual(ask(*THREE, tick(10), begin(1, 1, 1), slowest(9))[-1], [0])


if __name__ == "__main__":
    unittest.main()
