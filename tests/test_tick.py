"""tick: its bounds, when a trace is decided, and what decides (promises 3 and 4)."""

import unittest
from itertools import permutations

from helper import TOP, ask, begin, last, span, tick, tree


class Bounds(unittest.TestCase):
    def test_up_to_the_highest_time(self):
        self.assertEqual(ask(tick(2000000), tick(2000000)), [[0], [0]])
        self.assertEqual(ask(tick(2000001)), [[-1]])
        self.assertEqual(ask(tick(TOP)), [[-1]])

    def test_time_does_not_go_back(self):
        self.assertEqual(ask(tick(5), tick(4), tick(5), tick(0), tick(6)), [[0], [-1], [0], [-1], [0]])

    def test_refused_leaves_the_time(self):
        told = span(1, 1, None, 0, 10)
        self.assertEqual(
            ask(tick(5), told, tick(2000001), tick(4), tick(14), tick(15)),
            [[0], [1], [-1], [-1], [0], [1, 1, 0]])
        self.assertEqual(ask(tick(2000001), tick(0)), [[-1], [0]])


class When(unittest.TestCase):
    def test_quiet_for_so_long_or_longer(self):
        told = span(1, 1, None, 0, 10)
        self.assertEqual(ask(begin(4, 100, 10), tick(3), told, tick(6), tick(7))[-2:], [[0], [1, 1, 0]])
        self.assertEqual(ask(begin(4, 100, 10), tick(3), told, tick(6), tick(900))[-2:], [[0], [1, 1, 0]])

    def test_heard_of_last_counts(self):
        self.assertEqual(
            ask(begin(4, 100, 10), span(1, 1, None, 0, 10), tick(3), span(1, 2, 1, 0, 10), tick(6), tick(7))[-2:],
            [[0], [1, 1, 0]])

    def test_moments_of_the_spans_are_no_time(self):
        self.assertEqual(ask(span(1, 1, None, 500, 510), tick(9), tick(10))[1:], [[0], [1, 1, 0]])

    def test_each_trace_by_itself(self):
        calls = [begin(4, 100, 10), span(3, 1, None, 0, 10), tick(2), span(2, 1, None, 0, 10), tick(4), tick(6)]
        self.assertEqual(ask(*calls)[-2:], [[1, 3, 0], [1, 2, 0]])

    def test_by_their_numbers(self):
        told = [span(trace, 1, None, 0, 10) for trace in (30, 4, 200, 11)]
        self.assertEqual(last(*told, tick(10)), [4, 4, 0, 11, 0, 30, 1, 200, 1])

    def test_longest_quiet(self):
        told = span(1, 1, None, 0, 10)
        self.assertEqual(ask(begin(1000000, 100, 10), told, tick(999999), tick(1000000))[-2:], [[0], [1, 1, 0]])
        self.assertEqual(
            ask(begin(1000000, 100, 10), tick(1000000), told, tick(1999999), tick(2000000))[-2:], [[0], [1, 1, 0]])

    def test_no_quiet_asked(self):
        told = span(1, 1, None, 0, 10)
        self.assertEqual(ask(begin(0, 100, 10), told, tick(1))[-1], [1, 1, 0])
        self.assertEqual(ask(begin(0, 100, 10), told, tick(0), tick(0))[-2:], [[1, 1, 0], [0]])

    def test_same_time_again_decides_nothing_else(self):
        told = span(1, 1, None, 0, 10)
        self.assertEqual(ask(begin(1, 100, 10), tick(5), told, tick(5), tick(6), tick(6))[-3:], [[0], [1, 1, 0], [0]])

    def test_trace_that_is_not_whole_is_decided_too(self):
        self.assertEqual(last(span(1, 1, 2, 0, 10), span(3, 1, 1, 0, 10), tick(10)), [2, 1, 0, 3, 0])

    def test_refused_span_makes_no_trace(self):
        self.assertEqual(last(span(1, 1, None, 10, 10), tick(10)), [0])


class WhatIsKept(unittest.TestCase):
    def test_failure(self):
        for failed in (1, 2, TOP):
            self.assertEqual(last(span(1, 1, None, 0, 10, failed=failed), tick(10)), [1, 1, 1])
        self.assertEqual(last(span(1, 1, None, 0, 10), span(1, 2, 1, 0, 10, failed=1), tick(10)), [1, 1, 1])
        self.assertEqual(last(span(1, 1, None, 0, 10), span(1, 2, 77, 0, 10, failed=1), tick(10)), [1, 1, 1])

    def test_failure_of_another_trace(self):
        self.assertEqual(
            last(span(1, 1, None, 0, 10), span(2, 1, None, 0, 10, failed=1), tick(10)), [2, 1, 0, 2, 1])

    def test_refused_failure(self):
        self.assertEqual(
            last(span(1, 1, None, 0, 10), span(1, 1, None, 0, 10, failed=1), tick(10)), [1, 1, 0])

    def test_slow_from_first_moment_to_last_end(self):
        self.assertEqual(last(begin(1, 30, 10), span(1, 1, None, 5, 34), tick(1)), [1, 1, 0])
        self.assertEqual(last(begin(1, 30, 10), span(1, 1, None, 5, 35), tick(1)), [1, 1, 1])
        self.assertEqual(last(begin(1, 30, 10), span(1, 1, None, 5, 36), tick(1)), [1, 1, 1])

    def test_slow_over_several_spans(self):
        # Neither is the first of them the one that begins first, nor the last the one that ends last.
        several = [span(1, 1, None, 8, 20), span(1, 2, 1, 5, 9), span(1, 3, 1, 25, 34), span(1, 4, 99, 10, 12)]
        self.assertEqual(last(begin(1, 30, 10), *several, tick(1)), [1, 1, 0])
        self.assertEqual(last(begin(1, 29, 10), *several, tick(1)), [1, 1, 1])

    def test_everything_is_slow(self):
        self.assertEqual(last(begin(1, 0, 10), span(1, 1, None, 0, 1), tick(1)), [1, 1, 1])
        self.assertEqual(last(begin(1, 1, 10), span(1, 1, None, 0, 1), tick(1)), [1, 1, 1])

    def test_slowest_there_is(self):
        self.assertEqual(last(begin(1, 1000000, 10), span(1, 1, None, 0, 1000000), tick(1)), [1, 1, 1])
        self.assertEqual(last(begin(1, 1000000, 10), span(1, 1, None, 1, 1000000), tick(1)), [1, 1, 0])

    def test_multiples(self):
        told = [span(trace, 1, None, 0, 1) for trace in (0, 1, 3, 4, 6, 1000000, 999999)]
        self.assertEqual(last(begin(1, 100, 3), *told, tick(1)),
                         [7, 0, 1, 1, 0, 3, 1, 4, 0, 6, 1, 999999, 1, 1000000, 0])
        self.assertEqual(last(begin(1, 100, 1), *told, tick(1))[2::2], [1] * 7)
        self.assertEqual(last(begin(1, 100, 1000000), *told, tick(1)),
                         [7, 0, 1, 1, 0, 3, 0, 4, 0, 6, 0, 999999, 0, 1000000, 1])


class DecidedOnce(unittest.TestCase):
    def test_not_told_again(self):
        self.assertEqual(ask(span(1, 1, None, 0, 10), tick(10), tick(20), tick(2000000))[1:], [[1, 1, 0], [0], [0]])

    def test_later_spans_come_but_do_not_decide(self):
        self.assertEqual(
            ask(span(1, 1, None, 0, 10), tick(10), span(1, 2, 1, 0, 900, failed=1), tree(1), tick(20), tick(90))[1:],
            [[1, 1, 0], [2], [1, 1, 0, 2, 1], [0], [0]])

    def test_what_was_heard_of_by_then_decides(self):
        self.assertEqual(
            ask(span(1, 1, None, 0, 10), tick(9), span(1, 2, 1, 0, 10, failed=1), tick(18), tick(19))[-2:],
            [[0], [1, 1, 1]])


class OrderAtOneTime(unittest.TestCase):
    def test_says_nothing(self):
        told = [span(1, 1, None, 0, 10), span(1, 2, 1, 5, 40), span(1, 3, 2, 2, 7), span(4, 9, None, 0, 2, failed=1)]
        of_traces = [[call, trace] for call in (4, 6, 7, 8, 9) for trace in (1, 4)] + [[5, 1, 1], [5, 1, 2]]
        of_all = [[10], [11], [12, 1], [12, 9]]
        asked = [*of_traces, *of_all, tick(12), tick(13), *of_traces, *of_all]
        found = [ask(begin(10, 40, 9), tick(3), *order, *asked)[6:] for order in permutations(told)]
        self.assertEqual(found[0][16:18], [[0], [2, 1, 1, 4, 1]])
        self.assertEqual(found[0][-4:], [[2, 1, 4], [1, 0, 0, 2, 0], [1, 1, 40], [2, 1, 40, 4, 2]])
        for one in found:
            self.assertEqual(one, found[0])


if __name__ == "__main__":
    unittest.main()
