"""The interface: one list in, one list out, nothing changed and nothing kept."""

import unittest

from helper import (TOP, alone, ask, begin, calls_told, fate, faults, flat, hung, kept, path, slowest, span, tick,
                    tree)
from tracehouse.house import answers

EVERY_CALL = flat([
    begin(5, 50, 3),
    span(1, 0, None, 0, 10, service=2),
    span(1, 1, 0, 2, 6, service=9, failed=1),
    span(2, 7, 8, 0, 10),
    tree(1), alone(1, 0), path(1), hung(1), faults(1), fate(1), kept(), calls_told(), slowest(1),
    tick(5), fate(1), fate(2), kept(), calls_told(), slowest(TOP),
    tick(4), tree(9), alone(1, 9), path(2), hung(2), hung(9), faults(9), fate(9),
])


class Interface(unittest.TestCase):
    def test_counts_stand_ahead_of_the_answers(self):
        self.assertEqual(answers(EVERY_CALL), [
            1, 0,
            1, 1,
            1, 2,
            1, 1,
            5, 1, 0, 0, 1, 1,
            1, 6,
            10, 3, 0, 0, 2, 1, 2, 6, 0, 6, 10,
            5, 2, 2, 6, 9, 4,
            2, 1, 1,
            1, 0,
            1, 0,
            1, 0,
            1, 0,
            5, 2, 1, 1, 2, 0,
            1, 1,
            1, 2,
            2, 1, 1,
            5, 1, 2, 9, 1, 1,
            3, 1, 1, 10,
            1, -1,
            1, -2,
            1, -3,
            1, -6,
            1, -6,
            1, -2,
            1, -2,
            1, -2,
        ])

    def test_one_call_alone(self):
        self.assertEqual(answers([3, 0]), [1, 0])
        for call in (4, 6, 7, 8, 9):
            self.assertEqual(answers([call, 0]), [1, -2])
        self.assertEqual(answers([5, 0, 0]), [1, -2])
        for calls in ([10], [11], [12, 0], [12, TOP]):
            self.assertEqual(answers(calls), [1, 0])

    def test_numbers_are_ints_in_a_list(self):
        found = answers(EVERY_CALL)
        self.assertIs(type(found), list)
        self.assertEqual({type(number) for number in found}, {int})

    def test_list_handed_in_stays_as_it_was(self):
        given = list(EVERY_CALL)
        answers(given)
        self.assertEqual(given, EVERY_CALL)

    def test_list_handed_in_is_never_written_to(self):
        class Sealed(list):
            def refuse(self, *rest):
                raise AssertionError("the list handed in was changed")

            append = extend = insert = pop = remove = clear = sort = reverse = refuse
            __setitem__ = __delitem__ = __iadd__ = __imul__ = refuse

        self.assertEqual(answers(Sealed(EVERY_CALL)), answers(EVERY_CALL))

    def test_second_time_answers_as_the_first(self):
        first = answers(EVERY_CALL)
        self.assertEqual(answers(EVERY_CALL), first)
        self.assertIsNot(answers(EVERY_CALL), first)

    def test_nothing_is_kept_from_one_time_to_the_next(self):
        ask(begin(0, 1, 1), span(1, 0, None, 0, 10), tick(7))
        self.assertEqual(
            ask(tree(1), tick(0), fate(1), kept(), calls_told(), slowest(9)), [[-2], [0], [-2], [0], [0], [0]])
        # With what the first list began, this trace would be kept at once.
        self.assertEqual(ask(span(1, 0, None, 0, 10), tick(9), tick(10)), [[1], [0], [1, 1, 0]])

    def test_answer_given_back_belongs_to_the_caller(self):
        first = answers(EVERY_CALL)
        kept = list(first)
        first.clear()
        self.assertEqual(answers(EVERY_CALL), kept)

    def test_two_hundred_calls(self):
        told = [span(1, number, number - 1 if number else None, 0, 100 - number, failed=1) for number in range(60)]
        for asked in (tree(1), alone(1, 0), path(1), hung(1), faults(1), fate(1), kept(), calls_told(), slowest(9)):
            found = ask(*told, tick(10), *[asked] * 139)
            self.assertEqual(len(found), 200)
            self.assertEqual(found[61], found[199])


if __name__ == "__main__":
    unittest.main()
