"""faults: failures with none right within them that failed (the second half of promise 5)."""

import unittest
from itertools import permutations

from helper import TOP, Dice, ask, begin, faults, last, made_up_whole, rows_of, span, tick, tree


def failed(number, within, trace=1):
    return span(trace, number, within, 0, 10, failed=1)


def well(number, within, trace=1):
    return span(trace, number, within, 0, 10)


class Faults(unittest.TestCase):
    def test_none(self):
        self.assertEqual(last(well(0, None), faults(1)), [0])
        self.assertEqual(last(well(0, None), well(1, 0), faults(1)), [0])

    def test_failed_by_itself(self):
        self.assertEqual(last(failed(0, None), faults(1)), [1, 0])
        self.assertEqual(last(failed(5, None), well(1, 5), faults(1)), [1, 5])

    def test_any_number_but_nought_is_failed(self):
        for number in (1, 2, 1000001, TOP):
            self.assertEqual(last(span(1, 3, None, 0, 10, failed=number), faults(1)), [1, 3])

    def test_within_one_another(self):
        self.assertEqual(last(failed(0, None), failed(1, 0), failed(2, 1), faults(1)), [1, 2])

    def test_within_one_that_did_not_fail(self):
        self.assertEqual(last(well(0, None), failed(1, 0), faults(1)), [1, 1])

    def test_only_right_within_counts(self):
        # 2 failed, but 1 between didn't: so 0 is a fault too.
        self.assertEqual(last(failed(0, None), well(1, 0), failed(2, 1), faults(1)), [2, 0, 2])

    def test_one_of_several_right_within(self):
        self.assertEqual(last(failed(0, None), well(1, 0), failed(2, 0), well(3, 0), faults(1)), [1, 2])
        self.assertEqual(last(failed(0, None), failed(1, 0), failed(2, 0), well(3, 0), faults(1)), [2, 1, 2])

    def test_beside_one_another(self):
        self.assertEqual(
            last(failed(0, None), failed(1, 0), failed(2, 0), failed(3, 1), faults(1)), [2, 2, 3])

    def test_by_their_numbers(self):
        told = [well(9, None), failed(200, 9), failed(30, 9), failed(4, 30), failed(11, 9)]
        for order in permutations(told):
            self.assertEqual(last(*order, faults(1)), [3, 4, 11, 200])

    def test_moments_say_nothing(self):
        self.assertEqual(
            last(span(1, 0, None, 0, 5, failed=1), span(1, 1, 0, 20, 30, failed=1), faults(1)), [1, 1])

    def test_numbers_at_the_bounds(self):
        self.assertEqual(last(failed(1000000, None), failed(0, 1000000), faults(1)), [1, 0])
        self.assertEqual(last(failed(0, None), failed(1000000, 0), faults(1)), [1, 1000000])

    def test_sixty_within_one_another(self):
        told = [failed(number, number - 1 if number else None) for number in range(60)]
        self.assertEqual(last(*told, faults(1)), [1, 59])

    def test_sixty_beside_one_another(self):
        told = [failed(number, None) for number in range(60)]
        self.assertEqual(last(*told, faults(1)), [60] + list(range(60)))

    def test_another_trace_says_nothing(self):
        self.assertEqual(
            ask(failed(0, None), failed(1, 0, trace=2), faults(1), faults(2))[2:], [[1, 0], [1, 1]])

    def test_whatever_was_decided(self):
        self.assertEqual(
            ask(well(0, None), tick(10), faults(1), failed(1, 0), failed(2, 1), faults(1))[1:],
            [[1, 1, 0], [0], [2], [3], [1, 2]])

    def test_later_one_takes_the_fault_away(self):
        self.assertEqual(ask(failed(0, None), faults(1), failed(1, 0), faults(1))[1::2], [[1, 0], [1, 1]])


class NotWhole(unittest.TestCase):
    def test_several_within_nothing(self):
        self.assertEqual(last(failed(5, None), failed(3, None), faults(1)), [2, 3, 5])

    def test_not_in_the_tree(self):
        self.assertEqual(last(well(0, None), failed(4, 7), failed(5, 4), failed(6, 8), faults(1)), [2, 5, 6])

    def test_ring(self):
        self.assertEqual(last(failed(1, 2), failed(2, 1), faults(1)), [0])
        self.assertEqual(last(failed(1, 2), well(2, 1), faults(1)), [1, 1])

    def test_within_itself(self):
        self.assertEqual(last(failed(1, 1), faults(1)), [0])


class Promise(unittest.TestCase):
    def test_in_a_whole_every_failure_is_a_fault_or_has_one_within(self):
        seen = 0
        for seed in range(400):
            told = made_up_whole(Dice(seed), most=14)
            found = ask(*told, tree(1), faults(1))
            self.assertEqual(found[-2][0], 1)
            blamed = {row[0] for row in rows_of(1, found[-1])}
            for call in told:
                if call[7]:
                    seen += 1
                    self.assertTrue(blamed & with_all_within(told, call[2]), (told, call))
        self.assertGreater(seen, 400)

    def test_as_the_words_tell_it(self):
        for seed in range(400):
            told = made_up_whole(Dice(seed), most=14)
            wanted = [call[2] for call in told if call[7]
                      and not [one for one in told if one[3] == call[2] + 1 and one[7]]]
            self.assertEqual(last(*told, faults(1)), [len(wanted)] + sorted(wanted), told)


def with_all_within(told, number):
    """The number, and those of all spans within it, at any depth."""
    found = {number}
    for call in told:
        if call[3] == number + 1:
            found |= with_all_within(told, call[2])
    return found


class Refused(unittest.TestCase):
    def test_no_span_of_the_trace(self):
        self.assertEqual(ask(faults(0)), [[-2]])
        for trace in (0, 2, 1000001, TOP):
            self.assertEqual(last(failed(0, None), faults(trace)), [-2])

    def test_refused_failure_is_none(self):
        self.assertEqual(ask(well(0, None), failed(0, None), faults(1))[1:], [[-4], [0]])
        self.assertEqual(last(well(0, None), span(1, 1, 0, 5, 5, failed=1), faults(1)), [0])

    def test_no_longer_told(self):
        self.assertEqual(ask(failed(0, None), begin(1, 1, 1), faults(1)), [[1], [0], [-2]])


if __name__ == "__main__":
    unittest.main()
