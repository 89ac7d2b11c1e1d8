"""begin: its bounds, what it sets, what it clears, and the house ahead of any begin."""

import unittest

from helper import TOP, alone, ask, begin, last, path, span, tick, tree

TOLD = span(7, 1, None, 20, 30)


class Bounds(unittest.TestCase):
    def test_answers_nought(self):
        for numbers in ((0, 0, 1), (10, 100, 10), (1000000, 1000000, 1000000)):
            self.assertEqual(ask(begin(*numbers)), [[0]])

    def test_just_above_the_bound(self):
        for numbers in ((1000001, 1, 1), (1, 1000001, 1), (1, 1, 1000001)):
            self.assertEqual(ask(begin(*numbers)), [[-1]])

    def test_highest_number_there_is(self):
        for numbers in ((TOP, 1, 1), (1, TOP, 1), (1, 1, TOP), (TOP, TOP, TOP)):
            self.assertEqual(ask(begin(*numbers)), [[-1]])

    def test_multiples_of_nought(self):
        self.assertEqual(ask(begin(1, 1, 0)), [[-1]])
        self.assertEqual(ask(begin(TOP, 1, 0)), [[-1]])


class AtFirst(unittest.TestCase):
    def test_quiet_is_ten(self):
        self.assertEqual(ask(TOLD, tick(9), tick(10)), [[1], [0], [1, 7, 0]])

    def test_slow_is_a_hundred(self):
        self.assertEqual(last(span(7, 1, None, 20, 119), tick(10)), [1, 7, 0])
        self.assertEqual(last(span(7, 1, None, 20, 120), tick(10)), [1, 7, 1])

    def test_multiples_of_ten(self):
        told = [span(trace, 1, None, 0, 1) for trace in (5, 10, 11, 20)]
        self.assertEqual(last(*told, tick(10)), [4, 5, 0, 10, 1, 11, 0, 20, 1])

    def test_no_spans_and_time_nought(self):
        self.assertEqual(ask(tree(0), tick(0)), [[-2], [0]])


class ComingAgain(unittest.TestCase):
    def test_no_spans_are_left(self):
        self.assertEqual(
            ask(TOLD, begin(1, 1, 1), tree(7), alone(7, 1), path(7), TOLD, tick(1)),
            [[1], [0], [-2], [-2], [-2], [1], [1, 7, 1]])

    def test_spans_of_before_are_not_counted(self):
        full = [span(1, number, None, 0, 1) for number in range(60)]
        self.assertEqual(last(*full, TOLD), [-5])
        self.assertEqual(last(*full, begin(1, 1, 1), TOLD), [1])

    def test_time_is_nought_again(self):
        self.assertEqual(ask(tick(500), tick(3), begin(1, 1, 1), tick(3)), [[0], [-1], [0], [0]])

    def test_what_was_decided_is_gone(self):
        self.assertEqual(
            ask(begin(1, 1, 1), TOLD, tick(1), begin(1, 11, 2), TOLD, tick(1)),
            [[0], [1], [1, 7, 1], [0], [1], [1, 7, 0]])

    def test_last_one_holds(self):
        calls = [begin(1, 1, 1), begin(3, 1000, 4), span(4, 1, None, 0, 999), span(5, 1, None, 0, 999), tick(2), tick(3)]
        self.assertEqual(ask(*calls)[-2:], [[0], [2, 4, 1, 5, 0]])

    def test_refused_leaves_all_as_it_was(self):
        for refused in (begin(1, 1, 0), begin(1000001, 1, 1), begin(1, 1000001, 1), begin(1, 1, 1000001)):
            self.assertEqual(
                ask(begin(3, 11, 2), tick(5), TOLD, refused, tick(4), tree(7), tick(7), tick(8)),
                [[0], [0], [1], [-1], [-1], [1, 1, 0], [0], [1, 7, 0]])


if __name__ == "__main__":
    unittest.main()
