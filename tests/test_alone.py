"""alone: the moments of a span in which none right within it works."""

import unittest

from helper import TOP, Dice, alone, ask, last, made_up_whole, span


class Moments(unittest.TestCase):
    def of_ten_to_twenty(self, *inner):
        told = [span(1, 1 + at, 0, begins, ends) for at, (begins, ends) in enumerate(inner)]
        return last(span(1, 0, None, 10, 20), *told, alone(1, 0))

    def test_none_within(self):
        self.assertEqual(self.of_ten_to_twenty(), [10])

    def test_one_within(self):
        self.assertEqual(self.of_ten_to_twenty((12, 15)), [7])
        self.assertEqual(self.of_ten_to_twenty((10, 11)), [9])
        self.assertEqual(self.of_ten_to_twenty((19, 20)), [9])
        self.assertEqual(self.of_ten_to_twenty((10, 20)), [0])

    def test_reaching_beyond(self):
        self.assertEqual(self.of_ten_to_twenty((5, 15)), [5])
        self.assertEqual(self.of_ten_to_twenty((15, 25)), [5])
        self.assertEqual(self.of_ten_to_twenty((5, 25)), [0])

    def test_beside_it(self):
        self.assertEqual(self.of_ten_to_twenty((0, 10)), [10])
        self.assertEqual(self.of_ten_to_twenty((20, 30)), [10])
        self.assertEqual(self.of_ten_to_twenty((0, 5), (25, 30)), [10])

    def test_moments_with_several_count_once(self):
        self.assertEqual(self.of_ten_to_twenty((11, 14), (13, 16)), [5])
        self.assertEqual(self.of_ten_to_twenty((11, 18), (13, 14)), [3])
        self.assertEqual(self.of_ten_to_twenty((13, 14), (11, 18)), [3])
        self.assertEqual(self.of_ten_to_twenty((11, 14), (14, 16)), [5])
        self.assertEqual(self.of_ten_to_twenty((11, 14), (11, 14)), [7])
        self.assertEqual(self.of_ten_to_twenty((17, 18), (11, 12), (14, 15)), [7])

    def test_only_right_within(self):
        self.assertEqual(
            ask(span(1, 0, None, 0, 10), span(1, 1, 0, 2, 4), span(1, 2, 1, 3, 8),
                alone(1, 0), alone(1, 1), alone(1, 2))[3:],
            [[8], [1], [5]])

    def test_another_trace_says_nothing(self):
        self.assertEqual(last(span(1, 0, None, 0, 10), span(2, 1, 0, 2, 4), alone(1, 0)), [10])

    def test_trace_that_is_not_whole(self):
        self.assertEqual(
            ask(span(1, 5, 9, 0, 10), span(1, 6, 5, 2, 4), alone(1, 5), alone(1, 6))[2:], [[8], [2]])

    def test_within_one_another_in_a_ring(self):
        self.assertEqual(
            ask(span(1, 1, 2, 0, 10), span(1, 2, 1, 4, 20), alone(1, 1), alone(1, 2))[2:], [[4], [10]])

    def test_within_itself(self):
        self.assertEqual(last(span(1, 1, 1, 0, 10), alone(1, 1)), [0])

    def test_longest_span(self):
        self.assertEqual(last(span(1, 0, None, 0, 1000000), alone(1, 0)), [1000000])
        self.assertEqual(last(span(1, 0, None, 0, 1000000), span(1, 1, 0, 999999, 1000000), alone(1, 0)), [999999])

    def test_counted_moment_by_moment(self):
        for seed in range(300):
            told = made_up_whole(Dice(seed))
            found = ask(*told, *[alone(1, call[2]) for call in told])[len(told):]
            for call, answer in zip(told, found):
                inner = [one for one in told if one[3] == call[2] + 1]
                free = [moment for moment in range(call[5], call[6])
                        if not any(one[5] <= moment < one[6] for one in inner)]
                self.assertEqual(answer, [len(free)], (seed, call))


class Refused(unittest.TestCase):
    def test_no_span_of_the_trace(self):
        for trace in (0, 2, 1000001, TOP):
            self.assertEqual(last(span(1, 1, None, 0, 9), alone(trace, 1)), [-2])

    def test_no_such_span(self):
        for number in (0, 2, 7, 1000001, TOP):
            self.assertEqual(last(span(1, 1, 7, 0, 9), span(2, 2, None, 0, 9), alone(1, number)), [-3])

    def test_no_trace_ahead_of_no_span(self):
        self.assertEqual(ask(alone(1, 1)), [[-2]])
        self.assertEqual(ask(alone(TOP, TOP)), [[-2]])


if __name__ == "__main__":
    unittest.main()
