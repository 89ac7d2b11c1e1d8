"""fate and kept: what was decided, which stays so (promise 4)."""

import unittest
from itertools import permutations

from helper import TOP, ask, begin, fate, kept, last, span, tick

TOLD = span(7, 1, None, 20, 30)


class Fate(unittest.TestCase):
    def test_not_decided(self):
        self.assertEqual(last(TOLD, fate(7)), [0])
        self.assertEqual(last(TOLD, tick(9), fate(7)), [0])

    def test_kept(self):
        self.assertEqual(last(span(20, 1, None, 0, 10), tick(10), fate(20)), [1])
        self.assertEqual(last(span(7, 1, None, 0, 10, failed=1), tick(10), fate(7)), [1])
        self.assertEqual(last(span(7, 1, None, 0, 100), tick(10), fate(7)), [1])

    def test_dropped(self):
        self.assertEqual(last(TOLD, tick(10), fate(7)), [2])
        self.assertEqual(last(span(7, 1, None, 0, 99), tick(10), fate(7)), [2])

    def test_each_trace_by_itself(self):
        self.assertEqual(
            ask(span(10, 1, None, 0, 5), span(11, 1, None, 0, 5), tick(10), span(12, 1, None, 0, 5),
                fate(10), fate(11), fate(12))[4:],
            [[1], [2], [0]])

    def test_not_decided_ahead_of_being_quiet(self):
        self.assertEqual(
            ask(TOLD, tick(9), span(7, 2, 1, 0, 5, failed=1), tick(18), fate(7), tick(19), fate(7))[3:],
            [[0], [0], [1, 7, 1], [1]])

    def test_asking_decides_nothing(self):
        self.assertEqual(ask(TOLD, fate(7), kept(), tick(10), fate(7))[1:], [[0], [0], [1, 7, 0], [2]])

    def test_no_quiet_asked(self):
        self.assertEqual(ask(begin(0, 100, 7), TOLD, fate(7), tick(0), fate(7))[2:], [[0], [1, 7, 1], [1]])

    def test_refused_tick_decides_nothing(self):
        self.assertEqual(ask(TOLD, tick(2000001), fate(7), kept())[1:], [[-1], [0], [0]])

    def test_no_span_of_the_trace(self):
        self.assertEqual(ask(fate(0)), [[-2]])
        for trace in (0, 2, 1000001, TOP):
            self.assertEqual(last(TOLD, tick(10), fate(trace)), [-2])

    def test_refused_span_makes_no_trace(self):
        self.assertEqual(ask(span(7, 1, None, 5, 5), tick(10), fate(7), kept())[1:], [[0], [-2], [0]])


class Kept(unittest.TestCase):
    def test_none(self):
        self.assertEqual(ask(kept()), [[0]])
        self.assertEqual(last(TOLD, tick(10), kept()), [0])

    def test_none_that_is_not_decided(self):
        self.assertEqual(last(span(20, 1, None, 0, 500, failed=1), tick(9), kept()), [0])

    def test_by_their_numbers(self):
        told = [span(30, 1, None, 0, 5), span(200, 1, None, 0, 5), span(4, 1, None, 0, 5, failed=1),
                span(11, 1, None, 0, 100), span(5, 1, None, 0, 5)]
        for order in permutations(told):
            self.assertEqual(last(*order, tick(10), kept()), [4, 4, 11, 30, 200])

    def test_decided_at_several_times(self):
        calls = [span(30, 1, None, 0, 5), tick(10), kept(), span(20, 1, None, 0, 5), kept(), tick(20), kept()]
        self.assertEqual(ask(*calls)[2::2], [[1, 30], [1, 30], [2, 20, 30]])

    def test_numbers_at_the_bounds(self):
        self.assertEqual(
            last(span(0, 1, None, 0, 5), span(1000000, 1, None, 0, 5), tick(10), kept()), [2, 0, 1000000])

    def test_sixty(self):
        told = [span(trace, 1, None, 0, 5) for trace in range(60)]
        self.assertEqual(last(begin(1, 100, 1), *told, tick(1), kept()), [60] + list(range(60)))

    def test_one_that_is_not_whole(self):
        self.assertEqual(last(span(20, 1, 5, 0, 5), tick(10), kept()), [1, 20])


class StaysSo(unittest.TestCase):
    def test_dropped_whatever_comes_later(self):
        later = [span(7, 2, 1, 0, 900, failed=1), span(7, 3, None, 0, 1000000)]
        self.assertEqual(
            ask(TOLD, tick(10), *later, fate(7), kept(), tick(20), fate(7), kept(), tick(900), fate(7), kept())[2:],
            [[2], [3], [2], [0], [0], [2], [0], [0], [2], [0]])

    def test_kept_whatever_comes_later(self):
        later = [span(20, 2, None, 0, 5), span(20, 3, 99, 0, 5)]
        self.assertEqual(
            ask(span(20, 1, None, 0, 5), tick(10), *later, fate(20), kept(), tick(20), fate(20), kept())[2:],
            [[2], [3], [1], [1, 20], [0], [1], [1, 20]])

    def test_what_was_heard_of_by_then_decides(self):
        late = span(7, 2, 1, 0, 5, failed=1)
        self.assertEqual(last(TOLD, late, tick(10), fate(7)), [1])
        self.assertEqual(last(TOLD, tick(10), late, fate(7)), [2])

    def test_begin_clears_it(self):
        self.assertEqual(
            ask(span(20, 1, None, 0, 5), tick(10), begin(5, 50, 3), fate(20), kept(), span(20, 1, None, 0, 5),
                fate(20), tick(5), fate(20), kept())[2:],
            [[0], [-2], [0], [1], [0], [1, 20, 0], [2], [0]])

    def test_refused_begin_leaves_it(self):
        self.assertEqual(
            ask(span(20, 1, None, 0, 5), TOLD, tick(10), begin(1, 1, 0), fate(20), fate(7), kept())[3:],
            [[-1], [1], [2], [1, 20]])


if __name__ == "__main__":
    unittest.main()
