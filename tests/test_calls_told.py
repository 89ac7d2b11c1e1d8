"""calls_told: pairs of services in all traces that are kept."""

import unittest
from itertools import permutations

from helper import ask, begin, calls_told, last, span, tick


def spans(trace, *services):
    """Span 0 of the first service, within nothing; right within it one span of each other service."""
    inner = [span(trace, 1 + at, 0, 0, 5, service=service) for at, service in enumerate(services[1:])]
    return [span(trace, 0, None, 0, 5, service=services[0])] + inner


def told_of(*told):
    """What is answered when all these are decided; traces that are multiples of 10 are kept."""
    return last(*told, tick(10), calls_told())


class Pairs(unittest.TestCase):
    def test_none(self):
        self.assertEqual(ask(calls_told()), [[0]])
        self.assertEqual(told_of(*spans(10, 3)), [0])

    def test_one(self):
        self.assertEqual(told_of(*spans(10, 3, 5)), [1, 3, 5, 1, 0])

    def test_first_is_the_one_that_asks(self):
        self.assertEqual(told_of(*spans(10, 5, 3)), [1, 5, 3, 1, 0])

    def test_service_that_asks_itself(self):
        self.assertEqual(told_of(*spans(10, 3, 3)), [1, 3, 3, 1, 0])

    def test_several_of_one_pair(self):
        self.assertEqual(told_of(*spans(10, 3, 5, 5, 5)), [1, 3, 5, 3, 0])

    def test_failed_ones(self):
        self.assertEqual(
            told_of(*spans(10, 3, 5), span(10, 8, 0, 0, 5, service=5, failed=1),
                    span(10, 9, 0, 0, 5, service=5, failed=7)),
            [1, 3, 5, 3, 2])

    def test_failure_counts_for_the_second_alone(self):
        self.assertEqual(
            told_of(span(10, 0, None, 0, 5, service=3, failed=1), span(10, 1, 0, 0, 5, service=5)), [1, 3, 5, 1, 0])
        self.assertEqual(
            told_of(span(10, 0, None, 0, 5, service=3), span(10, 1, 0, 0, 5, service=5, failed=1),
                    span(10, 2, 1, 0, 5, service=6)),
            [2, 3, 5, 1, 1, 5, 6, 1, 0])

    def test_only_right_within(self):
        self.assertEqual(
            told_of(span(10, 0, None, 0, 5, service=1), span(10, 1, 0, 0, 5, service=2),
                    span(10, 2, 1, 0, 5, service=3)),
            [2, 1, 2, 1, 0, 2, 3, 1, 0])

    def test_by_the_first_then_by_the_second(self):
        told = spans(10, 9, 15, 0, 9) + spans(20, 0, 15, 2) + [span(20, 3, 1, 0, 5, service=9)]
        wanted = [6, 0, 2, 1, 0, 0, 15, 1, 0, 9, 0, 1, 0, 9, 9, 1, 0, 9, 15, 1, 0, 15, 9, 1, 0]
        self.assertEqual(told_of(*told), wanted)
        self.assertEqual(told_of(*reversed(told)), wanted)

    def test_order_of_telling_says_nothing(self):
        told = spans(10, 3, 5, 4) + spans(20, 3, 5)
        for order in permutations(told):
            self.assertEqual(told_of(*order), [2, 3, 4, 1, 0, 3, 5, 2, 0])

    def test_moments_say_nothing(self):
        self.assertEqual(
            told_of(span(10, 0, None, 4, 5, service=3), span(10, 1, 0, 20, 30, service=5)), [1, 3, 5, 1, 0])

    def test_several_traces(self):
        self.assertEqual(
            told_of(*spans(10, 3, 5, 5), *spans(20, 3, 5, 4), span(30, 0, None, 0, 5, service=3),
                    span(30, 1, 0, 0, 5, service=5, failed=1)),
            [2, 3, 4, 1, 0, 3, 5, 4, 1])

    def test_within_one_of_another_trace(self):
        self.assertEqual(told_of(*spans(10, 3), span(20, 1, 0, 0, 5, service=5)), [0])

    def test_most_there_can_be(self):
        told = [span(10, number, number - 1 if number else None, 0, 5, service=number * number % 16)
                for number in range(60)]
        pairs = {}
        for number in range(1, 60):
            pair = ((number - 1) ** 2 % 16, number ** 2 % 16)
            pairs[pair] = pairs.get(pair, 0) + 1
        wanted = [len(pairs)]
        for first, second in sorted(pairs):
            wanted += [first, second, pairs[(first, second)], 0]
        self.assertEqual(told_of(*told), wanted)


class NotWhole(unittest.TestCase):
    def test_within_what_was_not_told(self):
        self.assertEqual(
            told_of(*spans(10, 3, 5), span(10, 8, 99, 0, 5, service=6), span(10, 9, 8, 0, 5, service=7)),
            [2, 3, 5, 1, 0, 6, 7, 1, 0])

    def test_ring(self):
        self.assertEqual(
            told_of(span(10, 1, 2, 0, 5, service=6), span(10, 2, 1, 0, 5, service=7)),
            [2, 6, 7, 1, 0, 7, 6, 1, 0])

    def test_within_itself(self):
        self.assertEqual(told_of(span(10, 1, 1, 0, 5, service=6, failed=1)), [1, 6, 6, 1, 1])


class WhichTraces(unittest.TestCase):
    def test_not_those_that_are_not_decided(self):
        self.assertEqual(last(*spans(10, 3, 5), tick(9), calls_told()), [0])

    def test_not_those_that_are_dropped(self):
        self.assertEqual(told_of(*spans(11, 3, 5)), [0])
        self.assertEqual(told_of(*spans(11, 3, 5), *spans(10, 3, 5, 4)), [2, 3, 4, 1, 0, 3, 5, 1, 0])

    def test_decided_at_several_times(self):
        calls = [*spans(10, 3, 5), tick(10), *spans(20, 3, 5), calls_told(), tick(20), calls_told()]
        self.assertEqual(ask(*calls)[-3:], [[1, 3, 5, 1, 0], [1, 20, 1], [1, 3, 5, 2, 0]])

    def test_later_spans_of_one_that_is_kept(self):
        late = [span(10, 7, 0, 0, 5, service=5, failed=1), span(10, 8, 7, 0, 5, service=6)]
        self.assertEqual(
            last(*spans(10, 3, 5), tick(10), *late, calls_told()), [2, 3, 5, 2, 1, 5, 6, 1, 0])

    def test_later_spans_of_one_that_is_dropped(self):
        late = span(11, 7, 0, 0, 5, service=5, failed=1)
        self.assertEqual(ask(*spans(11, 3, 5), tick(10), late, calls_told(), tick(90), calls_told())[3:],
                         [[3], [0], [0], [0]])

    def test_same_and_refused_spans_are_not_counted(self):
        told = spans(10, 3, 5)
        other = [told[1], span(10, 1, 0, 0, 6, service=5), span(10, 2, 0, 5, 5, service=5)]
        self.assertEqual(ask(*told, *other, tick(10), calls_told())[2:], [[2], [-4], [-1], [1, 10, 1], [1, 3, 5, 1, 0]])

    def test_begin_clears_it(self):
        self.assertEqual(ask(*spans(10, 3, 5), tick(10), begin(1, 1, 1), calls_told())[-1], [0])


if __name__ == "__main__":
    unittest.main()
