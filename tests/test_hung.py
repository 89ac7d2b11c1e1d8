"""hung: by services, what a whole hung on (the first half of promise 5)."""

import unittest
from itertools import permutations

from helper import TOP, Dice, ask, begin, hung, last, made_up_whole, path, rows_of, span, tick

ROOT = span(1, 0, None, 10, 30, service=4)


def services(*told):
    """The pairs that hung answers."""
    return rows_of(2, last(*told, hung(told[0][1])))


class ByServices(unittest.TestCase):
    def test_one_span(self):
        self.assertEqual(last(ROOT, hung(1)), [1, 4, 20])

    def test_several_services(self):
        self.assertEqual(last(ROOT, span(1, 1, 0, 15, 20, service=6), hung(1)), [2, 4, 15, 6, 5])

    def test_several_stretches_of_one_span(self):
        self.assertEqual(
            services(ROOT, span(1, 1, 0, 12, 15, service=9), span(1, 2, 0, 20, 24, service=8)),
            [(4, 13), (8, 4), (9, 3)])

    def test_several_spans_of_one_service(self):
        self.assertEqual(
            services(ROOT, span(1, 1, 0, 12, 15, service=9), span(1, 2, 0, 20, 24, service=9)),
            [(4, 13), (9, 7)])

    def test_one_service_within_itself(self):
        self.assertEqual(services(ROOT, span(1, 1, 0, 12, 15, service=4)), [(4, 20)])
        self.assertEqual(
            services(ROOT, span(1, 1, 0, 12, 22, service=2), span(1, 2, 1, 14, 20, service=4)), [(2, 4), (4, 16)])

    def test_by_the_numbers_of_the_services(self):
        told = [span(1, number, 0, 10 + number, 11 + number, service=15 - number) for number in range(1, 16)]
        self.assertEqual(
            services(span(1, 0, None, 10, 30, service=15), *told),
            [(service, 1) for service in range(15)] + [(15, 5)])

    def test_services_at_the_bounds(self):
        self.assertEqual(
            services(span(1, 0, None, 10, 30, service=15), span(1, 1, 0, 12, 15, service=0)), [(0, 3), (15, 17)])

    def test_only_those_that_the_whole_hung_on(self):
        # 1 isn't waited for, as 2 ends later; and nothing is left for the one within nothing.
        self.assertEqual(
            services(ROOT, span(1, 1, 0, 12, 20, service=9), span(1, 2, 0, 10, 30, service=8)), [(8, 20)])
        self.assertEqual(services(ROOT, span(1, 1, 0, 15, 31, service=9)), [(4, 20)])

    def test_only_as_long_as_the_whole_hung_on_it(self):
        self.assertEqual(services(ROOT, span(1, 1, 0, 5, 20, service=9)), [(4, 10), (9, 10)])

    def test_longest_there_is(self):
        self.assertEqual(last(span(1, 0, None, 0, 1000000), hung(1)), [1, 0, 1000000])

    def test_another_trace_says_nothing(self):
        self.assertEqual(
            ask(ROOT, span(2, 0, None, 0, 5, service=4), span(2, 1, 0, 1, 3, service=7), hung(1), hung(2))[3:],
            [[1, 4, 20], [2, 4, 3, 7, 2]])

    def test_order_of_telling_says_nothing(self):
        told = [ROOT, span(1, 1, 0, 12, 28, service=2), span(1, 2, 1, 14, 20, service=4),
                span(1, 3, 2, 16, 18, service=2), span(1, 4, 0, 11, 13, service=0)]
        for order in permutations(told):
            self.assertEqual(services(*order), services(*told))

    def test_whatever_was_decided(self):
        inner = span(1, 1, 0, 15, 20, service=6)
        for each in (1, 7):
            self.assertEqual(
                ask(begin(1, 100, each), ROOT, hung(1), tick(1), hung(1), inner, hung(1))[2::2],
                [[1, 4, 20], [1, 4, 20], [2, 4, 15, 6, 5]])


class Promises(unittest.TestCase):
    def setUp(self):
        self.lines = [made_up_whole(Dice(seed), most=14) for seed in range(400)]

    def test_together_as_long_as_the_whole_took(self):
        for told in self.lines:
            self.assertEqual(sum(time for service, time in services(*told)), told[0][6] - told[0][5], told)

    def test_the_stretches_of_each_service_together(self):
        for told in self.lines:
            service_of = {call[2]: call[4] for call in told}
            wanted = {}
            for number, begins, ends in rows_of(3, last(*told, path(1))):
                wanted[service_of[number]] = wanted.get(service_of[number], 0) + ends - begins
            self.assertEqual(services(*told), sorted(wanted.items()), told)


class Refused(unittest.TestCase):
    def test_no_span_of_the_trace(self):
        self.assertEqual(ask(hung(0)), [[-2]])
        for trace in (0, 2, 1000001, TOP):
            self.assertEqual(last(ROOT, hung(trace)), [-2])

    def test_not_whole(self):
        self.assertEqual(last(ROOT, span(1, 1, None, 10, 30), hung(1)), [-6])
        self.assertEqual(last(span(1, 1, 5, 0, 9), hung(1)), [-6])
        self.assertEqual(last(ROOT, span(1, 1, 5, 10, 30), hung(1)), [-6])
        self.assertEqual(last(ROOT, span(1, 1, 1, 10, 30), hung(1)), [-6])
        self.assertEqual(last(ROOT, span(1, 1, 2, 10, 30), span(1, 2, 1, 10, 30), hung(1)), [-6])

    def test_whole_once_the_missing_one_comes(self):
        self.assertEqual(
            ask(span(1, 1, 0, 15, 20, service=6), hung(1), ROOT, hung(1)), [[1], [-6], [2], [2, 4, 15, 6, 5]])

    def test_no_longer_told(self):
        self.assertEqual(ask(ROOT, begin(1, 1, 1), hung(1)), [[1], [0], [-2]])


if __name__ == "__main__":
    unittest.main()
