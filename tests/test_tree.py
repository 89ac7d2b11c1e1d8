"""tree: the order of its spans, their depths, and when a trace is whole."""

import unittest
from itertools import permutations

from helper import TOP, ask, last, span, tree


class Order(unittest.TestCase):
    def test_one_span(self):
        self.assertEqual(last(span(1, 5, None, 0, 10), tree(1)), [1, 5, 0])

    def test_each_followed_by_those_within_it(self):
        told = [span(1, 5, None, 0, 10), span(1, 9, 5, 0, 10), span(1, 2, 5, 0, 10),
                span(1, 1, 9, 0, 10), span(1, 8, 2, 0, 10), span(1, 0, 8, 0, 10)]
        wanted = [1, 5, 0, 2, 1, 8, 2, 0, 3, 9, 1, 1, 2]
        for order in permutations(told):
            self.assertEqual(last(*order, tree(1)), wanted)

    def test_by_numbers_not_by_moments(self):
        self.assertEqual(
            last(span(1, 0, None, 0, 9), span(1, 30, 0, 0, 1), span(1, 4, 0, 5, 6), span(1, 200, 0, 2, 3), tree(1)),
            [1, 0, 0, 4, 1, 30, 1, 200, 1])

    def test_sixty_deep(self):
        told = [span(1, number, number + 1 if number < 59 else None, 0, 10) for number in range(60)]
        wanted = [1]
        for depth in range(60):
            wanted += [59 - depth, depth]
        self.assertEqual(last(*told, tree(1)), wanted)

    def test_traces_are_apart(self):
        self.assertEqual(
            ask(span(1, 0, None, 0, 9), span(2, 0, None, 0, 9), span(2, 1, 0, 0, 9), tree(1), tree(2))[3:],
            [[1, 0, 0], [1, 0, 0, 1, 1]])

    def test_moments_say_nothing(self):
        self.assertEqual(last(span(1, 0, None, 4, 5), span(1, 1, 0, 0, 9), tree(1)), [1, 0, 0, 1, 1])


class NotWhole(unittest.TestCase):
    def test_several_within_nothing(self):
        self.assertEqual(
            last(span(1, 8, None, 0, 9), span(1, 3, None, 0, 9), span(1, 4, 8, 0, 9), span(1, 9, 3, 0, 9), tree(1)),
            [0, 3, 0, 9, 1, 8, 0, 4, 1])

    def test_within_what_was_not_told(self):
        self.assertEqual(last(span(1, 3, None, 0, 9), span(1, 4, 7, 0, 9), tree(1)), [0, 3, 0])

    def test_none_within_nothing(self):
        self.assertEqual(last(span(1, 4, 7, 0, 9), span(1, 5, 4, 0, 9), tree(1)), [0])

    def test_within_one_of_another_trace(self):
        self.assertEqual(last(span(1, 3, None, 0, 9), span(2, 4, 3, 0, 9), tree(2)), [0])

    def test_within_itself(self):
        self.assertEqual(last(span(1, 4, 4, 0, 9), tree(1)), [0])
        self.assertEqual(last(span(1, 4, 4, 0, 9), span(1, 5, None, 0, 9), tree(1)), [0, 5, 0])

    def test_ring(self):
        ring = [span(1, 1, 2, 0, 9), span(1, 2, 3, 0, 9), span(1, 3, 1, 0, 9)]
        self.assertEqual(last(*ring, tree(1)), [0])
        self.assertEqual(last(*ring, span(1, 0, None, 0, 9), span(1, 7, 0, 0, 9), tree(1)), [0, 0, 0, 7, 1])

    def test_whole_once_the_missing_one_comes(self):
        self.assertEqual(
            ask(span(1, 4, 7, 0, 9), span(1, 3, None, 0, 9), tree(1), span(1, 7, 3, 0, 9), tree(1))[2:],
            [[0, 3, 0], [3], [1, 3, 0, 7, 1, 4, 2]])


class Refused(unittest.TestCase):
    def test_no_span_of_the_trace(self):
        for trace in (0, 2, 1000000, 1000001, TOP):
            self.assertEqual(last(span(1, 1, None, 0, 9), tree(trace)), [-2])


if __name__ == "__main__":
    unittest.main()
