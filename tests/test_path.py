"""path: what a whole hung on (promises 1, 2, 3 and the first half of 5)."""

import unittest
from itertools import permutations

from helper import TOP, Dice, ask, last, made_up_whole, path, rows_of, span


def stretches(*told):
    """The stretches that path answers, as tuples of a span, from when, up to when."""
    return rows_of(3, last(*told, path(told[0][1])))


def by_the_words(told, x, a, t):
    """What x hung on from a to t, told just as the document does; x is a span call."""
    if not t > a:
        return []
    inner = [one for one in told if one[3] == x[2] + 1 and a < one[6] <= t]
    if not inner:
        return [(x[2], a, t)]
    y = min(inner, key=lambda one: (-one[6], one[2]))
    b = max(y[5], a)
    rest = [(x[2], y[6], t)] if y[6] < t else []
    return by_the_words(told, x, a, b) + by_the_words(told, y, b, y[6]) + rest


ROOT = span(1, 0, None, 10, 30)


class Stretches(unittest.TestCase):
    def test_one_span(self):
        self.assertEqual(stretches(ROOT), [(0, 10, 30)])

    def test_one_within(self):
        self.assertEqual(stretches(ROOT, span(1, 1, 0, 15, 20)), [(0, 10, 15), (1, 15, 20), (0, 20, 30)])

    def test_at_the_edges_of_the_whole(self):
        self.assertEqual(stretches(ROOT, span(1, 1, 0, 10, 20)), [(1, 10, 20), (0, 20, 30)])
        self.assertEqual(stretches(ROOT, span(1, 1, 0, 15, 30)), [(0, 10, 15), (1, 15, 30)])
        self.assertEqual(stretches(ROOT, span(1, 1, 0, 10, 30)), [(1, 10, 30)])

    def test_one_behind_another(self):
        self.assertEqual(
            stretches(ROOT, span(1, 2, 0, 12, 15), span(1, 1, 0, 20, 25)),
            [(0, 10, 12), (2, 12, 15), (0, 15, 20), (1, 20, 25), (0, 25, 30)])
        self.assertEqual(
            stretches(ROOT, span(1, 2, 0, 12, 15), span(1, 1, 0, 15, 25)),
            [(0, 10, 12), (2, 12, 15), (1, 15, 25), (0, 25, 30)])

    def test_the_one_that_ends_last_is_waited_for(self):
        self.assertEqual(
            stretches(ROOT, span(1, 1, 0, 12, 20), span(1, 2, 0, 15, 25)),
            [(0, 10, 15), (2, 15, 25), (0, 25, 30)])
        # The first one ended ahead of where the second begins, so that one was waited for too.
        self.assertEqual(
            stretches(ROOT, span(1, 1, 0, 12, 14), span(1, 2, 0, 15, 25), span(1, 3, 0, 13, 18)),
            [(0, 10, 12), (1, 12, 14), (0, 14, 15), (2, 15, 25), (0, 25, 30)])

    def test_of_those_that_end_last_the_least_number(self):
        self.assertEqual(
            stretches(ROOT, span(1, 7, 0, 11, 25), span(1, 3, 0, 20, 25), span(1, 5, 0, 13, 25)),
            [(0, 10, 20), (3, 20, 25), (0, 25, 30)])

    def test_begins_ahead_of_the_whole(self):
        self.assertEqual(stretches(ROOT, span(1, 1, 0, 5, 20)), [(1, 10, 20), (0, 20, 30)])

    def test_ends_behind_the_whole(self):
        self.assertEqual(stretches(ROOT, span(1, 1, 0, 15, 31)), [(0, 10, 30)])
        self.assertEqual(stretches(ROOT, span(1, 1, 0, 5, 35)), [(0, 10, 30)])
        self.assertEqual(
            stretches(ROOT, span(1, 1, 0, 15, 31), span(1, 2, 0, 12, 20)), [(0, 10, 12), (2, 12, 20), (0, 20, 30)])

    def test_over_at_the_first_moment(self):
        self.assertEqual(stretches(ROOT, span(1, 1, 0, 5, 10)), [(0, 10, 30)])
        self.assertEqual(stretches(ROOT, span(1, 1, 0, 5, 11)), [(1, 10, 11), (0, 11, 30)])

    def test_deeper(self):
        self.assertEqual(
            stretches(ROOT, span(1, 1, 0, 12, 28), span(1, 2, 1, 14, 20), span(1, 3, 2, 16, 18)),
            [(0, 10, 12), (1, 12, 14), (2, 14, 16), (3, 16, 18), (2, 18, 20), (1, 20, 28), (0, 28, 30)])

    def test_deeper_one_that_began_ahead(self):
        # 2 begins ahead of 1, which it's within; it counts from where 1 begins.
        self.assertEqual(
            stretches(ROOT, span(1, 1, 0, 15, 25), span(1, 2, 1, 11, 20), span(1, 3, 2, 5, 16)),
            [(0, 10, 15), (3, 15, 16), (2, 16, 20), (1, 20, 25), (0, 25, 30)])

    def test_deeper_within_one_not_waited_for(self):
        self.assertEqual(
            stretches(ROOT, span(1, 1, 0, 12, 20), span(1, 2, 0, 11, 25), span(1, 3, 1, 13, 15)),
            [(0, 10, 11), (2, 11, 25), (0, 25, 30)])

    def test_order_of_telling_says_nothing(self):
        told = [ROOT, span(1, 1, 0, 12, 28), span(1, 2, 1, 14, 20), span(1, 3, 2, 16, 18), span(1, 4, 0, 11, 13)]
        for order in permutations(told):
            self.assertEqual(stretches(*order), stretches(*told))

    def test_sixty_deep(self):
        told = [span(1, number, number - 1 if number else None, number, 200 - number) for number in range(60)]
        wanted = [(number, number, number + 1) for number in range(59)] + [(59, 59, 141)]
        wanted += [(number, 199 - number, 200 - number) for number in range(58, -1, -1)]
        self.assertEqual(stretches(*told), wanted)

    def test_sixty_beside_one_another(self):
        told = [span(1, 0, None, 0, 1000000)]
        told += [span(1, number, 0, number * 10, number * 10 + 5) for number in range(1, 60)]
        found = stretches(*told)
        self.assertEqual(len(found), 119)
        self.assertEqual(found[:3], [(0, 0, 10), (1, 10, 15), (0, 15, 20)])
        self.assertEqual(found[-2:], [(59, 590, 595), (0, 595, 1000000)])


class Promises(unittest.TestCase):
    def setUp(self):
        self.lines = [made_up_whole(Dice(seed), most=14) for seed in range(600)]

    def test_as_the_words_tell_it(self):
        for told in self.lines:
            self.assertEqual(stretches(*told), by_the_words(told, told[0], told[0][5], told[0][6]), told)

    def test_without_a_gap_from_first_to_last_each_within_its_span(self):
        for told in self.lines:
            spans = {call[2]: call for call in told}
            reached = told[0][5]
            for number, begins, ends in stretches(*told):
                self.assertEqual(begins, reached)
                self.assertLess(begins, ends)
                self.assertLessEqual(spans[number][5], begins)
                self.assertLessEqual(ends, spans[number][6])
                reached = ends
            self.assertEqual(reached, told[0][6])

    def test_nothing_right_within_ends_in_a_stretch_of_the_span_itself(self):
        for told in self.lines:
            for number, begins, ends in stretches(*told):
                inner = [call for call in told if call[3] == number + 1]
                self.assertEqual([call for call in inner if begins < call[6] <= ends], [])

    def test_together_as_long_as_the_whole_took(self):
        for told in self.lines:
            total = sum(ends - begins for number, begins, ends in stretches(*told))
            self.assertEqual(total, told[0][6] - told[0][5])

    def test_order_says_nothing(self):
        for seed, told in enumerate(self.lines):
            self.assertEqual(stretches(*Dice(seed + 1000).shuffled(told)), stretches(*told))


class Refused(unittest.TestCase):
    def test_no_span_of_the_trace(self):
        for trace in (0, 2, 1000001, TOP):
            self.assertEqual(last(ROOT, path(trace)), [-2])

    def test_several_within_nothing(self):
        self.assertEqual(last(ROOT, span(1, 1, None, 10, 30), path(1)), [-6])

    def test_none_within_nothing(self):
        self.assertEqual(last(span(1, 1, 5, 0, 9), path(1)), [-6])
        self.assertEqual(last(span(1, 1, 1, 0, 9), path(1)), [-6])

    def test_one_that_is_not_in_the_tree(self):
        self.assertEqual(last(ROOT, span(1, 1, 5, 10, 30), path(1)), [-6])
        self.assertEqual(last(ROOT, span(1, 1, 1, 10, 30), path(1)), [-6])
        self.assertEqual(last(ROOT, span(1, 1, 2, 10, 30), span(1, 2, 1, 10, 30), path(1)), [-6])

    def test_whole_once_the_missing_one_comes(self):
        self.assertEqual(
            ask(span(1, 1, 0, 15, 20), path(1), ROOT, path(1)),
            [[1], [-6], [2], [3, 0, 10, 15, 1, 15, 20, 0, 20, 30]])

    def test_no_longer_whole(self):
        self.assertEqual(ask(ROOT, path(1), span(1, 1, 9, 0, 1), path(1)), [[1], [1, 0, 10, 30], [2], [-6]])


if __name__ == "__main__":
    unittest.main()
