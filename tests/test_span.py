"""span: its bounds, its refusals and their order, and a span that comes again."""

import unittest

from helper import TOP, alone, ask, begin, last, path, span, tick, tree

# As the call has them: trace, number, within, service, from, to, failed.
PLAIN = [1, 2, 0, 3, 4, 5, 0]


def with_changed(place, number):
    numbers = list(PLAIN)
    numbers[place] = number
    return [2] + numbers


class Bounds(unittest.TestCase):
    def test_at_the_bounds(self):
        for place, number in ((0, 0), (0, 1000000), (1, 0), (1, 1000000), (2, 1), (2, 1000001),
                              (3, 0), (3, 15), (4, 0), (5, 1000000), (6, 1), (6, TOP)):
            self.assertEqual(ask(with_changed(place, number)), [[1]], (place, number))

    def test_just_beyond_the_bounds(self):
        for place, number in ((0, 1000001), (1, 1000001), (2, 1000002), (3, 16), (5, 1000001)):
            self.assertEqual(ask(with_changed(place, number)), [[-1]], (place, number))

    def test_highest_number_there_is(self):
        for place in range(6):
            self.assertEqual(ask(with_changed(place, TOP)), [[-1]], place)

    def test_both_moments_beyond(self):
        self.assertEqual(ask(span(1, 1, None, 1000000, 1000001)), [[-1]])
        self.assertEqual(ask(span(1, 1, None, 1000001, 1000002)), [[-1]])

    def test_second_moment_is_the_greater_one(self):
        self.assertEqual(ask(span(1, 1, None, 4, 5)), [[1]])
        self.assertEqual(ask(span(1, 1, None, 5, 5)), [[-1]])
        self.assertEqual(ask(span(1, 1, None, 6, 5)), [[-1]])
        self.assertEqual(ask(span(1, 1, None, 999999, 1000000)), [[1]])
        self.assertEqual(ask(span(1, 1, None, 1000000, 1000000)), [[-1]])
        self.assertEqual(ask(span(1, 1, None, 0, 0)), [[-1]])

    def test_refused_span_is_not_told(self):
        self.assertEqual(ask(span(1, 1, None, 5, 5), tree(1), tick(10)), [[-1], [-2], [0]])


class HowMany(unittest.TestCase):
    def test_counts_the_trace_alone(self):
        self.assertEqual(
            ask(span(1, 5, None, 0, 1), span(2, 5, None, 0, 1), span(1, 6, 5, 0, 1), span(2, 0, 9, 0, 1),
                span(1, 4, 5, 0, 1)),
            [[1], [1], [2], [2], [3]])

    def test_within_what_is_not_told_yet(self):
        self.assertEqual(ask(span(1, 5, 8, 0, 1), tree(1), span(1, 8, None, 0, 1), tree(1)),
                         [[1], [0], [2], [1, 8, 0, 5, 1]])

    def test_within_is_one_more_than_the_number(self):
        self.assertEqual(last([2, 1, 0, 0, 0, 0, 9, 0], [2, 1, 1, 1, 0, 0, 9, 0], tree(1)), [1, 0, 0, 1, 1])
        self.assertEqual(last([2, 1, 1000000, 0, 0, 0, 9, 0], [2, 1, 1, 1000001, 0, 0, 9, 0], tree(1)),
                         [1, 1000000, 0, 1, 1])


class ComingAgain(unittest.TestCase):
    def test_other_span_of_that_number(self):
        for place, number in ((2, 1), (3, 4), (4, 3), (5, 6), (6, 1)):
            self.assertEqual(ask([2] + PLAIN, with_changed(place, number)), [[1], [-4]], (place, number))

    def test_other_trace_or_number_is_no_other_span(self):
        self.assertEqual(ask([2] + PLAIN, with_changed(0, 2), with_changed(1, 3)), [[1], [1], [2]])

    def test_other_span_leaves_the_first(self):
        self.assertEqual(
            ask(span(1, 1, None, 0, 10), span(1, 1, None, 3, 10), alone(1, 1), path(1)),
            [[1], [-4], [10], [1, 1, 0, 10]])

    def test_same_span_changes_nothing(self):
        self.assertEqual(
            ask([2] + PLAIN, with_changed(1, 3), [2] + PLAIN, tree(1)),
            [[1], [2], [2], [0, 2, 0, 3, 0]])

    def test_failed_is_failed_by_whatever_number(self):
        self.assertEqual(ask(with_changed(6, 1), with_changed(6, TOP), with_changed(6, 0)), [[1], [1], [-4]])

    def test_same_span_is_not_heard_of_anew(self):
        told = span(1, 1, None, 0, 10)
        self.assertEqual(ask(told, tick(9), told, tick(10)), [[1], [0], [1], [1, 1, 0]])

    def test_refused_span_is_not_heard_of(self):
        for refused in (span(1, 1, None, 0, 11), span(1, 2, None, 5, 5)):
            self.assertEqual(ask(span(1, 1, None, 0, 10), tick(9), refused, tick(10))[-1], [1, 1, 0])


class Sixty(unittest.TestCase):
    def setUp(self):
        self.full = [span(number % 3, number, None, 0, 10) for number in range(60)]

    def test_sixtieth_is_told_and_no_more(self):
        found = ask(*self.full, span(0, 60, None, 0, 10), span(9, 1, None, 0, 10), tree(9))
        self.assertEqual(found[59:], [[20], [-5], [-5], [-2]])

    def test_sixty_in_one_trace(self):
        found = ask(*[span(1, number, None, 0, 10) for number in range(61)])
        self.assertEqual(found, [[count] for count in range(1, 61)] + [[-5]])

    def test_same_span_is_no_more(self):
        self.assertEqual(last(*self.full, self.full[0]), [20])

    def test_refused_and_same_spans_are_not_counted(self):
        other = [span(0, 0, None, 5, 5), span(0, 0, None, 0, 11), self.full[0]]
        found = ask(*self.full[:59], *other, self.full[59], span(0, 60, None, 0, 10))
        self.assertEqual(found[59:], [[-1], [-4], [20], [20], [-5]])

    def test_too_many_are_not_heard_of(self):
        calls = self.full + [tick(9), span(0, 60, None, 0, 10, failed=1), begin(1, 1, 0), tick(10)]
        self.assertEqual(ask(*calls)[60:], [[0], [-5], [-1], [3, 0, 1, 1, 0, 2, 0]])


class OrderOfRefusals(unittest.TestCase):
    def setUp(self):
        self.full = [span(1, number, None, 0, 10) for number in range(60)]

    def test_what_cannot_be_ahead_of_another_span(self):
        self.assertEqual(last(span(1, 1, None, 0, 10), span(1, 1, None, 10, 10)), [-1])

    def test_what_cannot_be_ahead_of_too_many(self):
        self.assertEqual(last(*self.full, span(1, 60, None, 10, 10)), [-1])
        self.assertEqual(last(*self.full, span(1, 1, None, 10, 10)), [-1])

    def test_another_span_ahead_of_too_many(self):
        self.assertEqual(last(*self.full, span(1, 1, None, 0, 11)), [-4])


if __name__ == "__main__":
    unittest.main()
