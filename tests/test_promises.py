"""The whole program: made-up lists of all twelve calls, against a house that goes by the document's words alone."""

import unittest

from helper import Dice, ask, begin, span, tick

ANY = (4, 5, 6, 7, 8, 9, 10, 11, 12)


class PlainHouse:
    """Keeps what was told as it was told, and counts everything anew whenever it's asked."""

    def __init__(self):
        self.begin(10, 100, 10)

    def answer(self, call):
        ways = (None, self.begin, self.span, self.tick, self.tree, self.alone, self.path, self.hung, self.faults,
                self.fate, self.kept, self.calls_told, self.slowest)
        if call[0] in range(4, 10) and not self.of(call[1]):
            return [-2]
        return ways[call[0]](*call[1:])

    def begin(self, quiet, slow, each):
        if quiet > 10 ** 6 or slow > 10 ** 6 or each > 10 ** 6 or each == 0:
            return [-1]
        self.settings = (quiet, slow, each)
        self.now = 0
        self.told = []
        self.decided = {}
        return [0]

    def of(self, trace):
        """All that was told of the trace: number, within, service, from, to, failed, when it came; by numbers."""
        return sorted(row[1:] for row in self.told if row[0] == trace)

    def span(self, trace, number, within, service, begins, ends, failed):
        if trace > 10 ** 6 or number > 10 ** 6 or within > 10 ** 6 + 1 or service > 15:
            return [-1]
        if begins > 10 ** 6 or ends > 10 ** 6 or not ends > begins:
            return [-1]
        row = (number, within, service, begins, ends, failed != 0)
        alike = [one[:6] for one in self.of(trace) if one[0] == number]
        if alike and alike[0] != row:
            return [-4]
        if not alike:
            if len(self.told) == 60:
                return [-5]
            self.told.append((trace, *row, self.now))
        return [len(self.of(trace))]

    def length(self, trace):
        return max(row[4] for row in self.of(trace)) - min(row[3] for row in self.of(trace))

    def tick(self, now):
        if now < self.now or now > 2000000:
            return [-1]
        self.now = now
        quiet, slow, each = self.settings
        answer = []
        for trace in sorted({row[0] for row in self.told}):
            spans = self.of(trace)
            if trace in self.decided or now - max(row[6] for row in spans) < quiet:
                continue
            keep = any(row[5] for row in spans) or self.length(trace) >= slow or trace % each == 0
            self.decided[trace] = keep
            answer += [trace, int(keep)]
        return [len(answer) // 2] + answer

    def inside(self, trace, number):
        return [row for row in self.of(trace) if row[1] == number + 1]

    def rows(self, trace, above=-1, depth=0):
        # Within nothing is told as 0: right within -1, so to speak.
        found = []
        for row in self.inside(trace, above):
            found += [(row[0], depth)] + self.rows(trace, row[0], depth + 1)
        return found

    def whole(self, trace):
        return len(self.inside(trace, -1)) == 1 and len(self.rows(trace)) == len(self.of(trace))

    def tree(self, trace):
        return [int(self.whole(trace))] + [number for row in self.rows(trace) for number in row]

    def alone(self, trace, number):
        for row in self.of(trace):
            if row[0] == number:
                inner = self.inside(trace, number)
                return [sum(not any(one[3] <= moment < one[4] for one in inner) for moment in range(row[3], row[4]))]
        return [-3]

    def stretches(self, trace, x, a, t):
        if not t > a:
            return []
        ended = [row for row in self.inside(trace, x[0]) if a < row[4] <= t]
        if not ended:
            return [(x, a, t)]
        y = max(ended, key=lambda row: (row[4], -row[0]))
        b = max(y[3], a)
        rest = [(x, y[4], t)] if y[4] < t else []
        return self.stretches(trace, x, a, b) + self.stretches(trace, y, b, y[4]) + rest

    def all_stretches(self, trace):
        top = self.inside(trace, -1)[0]
        return self.stretches(trace, top, top[3], top[4])

    def path(self, trace):
        if not self.whole(trace):
            return [-6]
        found = self.all_stretches(trace)
        return [len(found)] + [number for row, a, t in found for number in (row[0], a, t)]

    def hung(self, trace):
        if not self.whole(trace):
            return [-6]
        found = self.all_stretches(trace)
        services = sorted({row[2] for row, a, t in found})
        answer = [len(services)]
        for service in services:
            answer += [service, sum(t - a for row, a, t in found if row[2] == service)]
        return answer

    def faults(self, trace):
        found = [row[0] for row in self.of(trace) if row[5] and not any(one[5] for one in self.inside(trace, row[0]))]
        return [len(found)] + found

    def fate(self, trace):
        return [{None: 0, True: 1, False: 2}[self.decided.get(trace)]]

    def those_kept(self):
        return sorted(trace for trace in self.decided if self.decided[trace])

    def kept(self):
        return [len(self.those_kept())] + self.those_kept()

    def calls_told(self):
        answer = []
        for first in range(16):
            for second in range(16):
                found = [one for trace in self.those_kept() for row in self.of(trace) if row[2] == first
                         for one in self.inside(trace, row[0]) if one[2] == second]
                if found:
                    answer += [first, second, len(found), sum(one[5] for one in found)]
        return [len(answer) // 4] + answer

    def slowest(self, n):
        rest = self.those_kept()
        answer = []
        while rest and len(answer) < 2 * n:
            longest = max(self.length(trace) for trace in rest)
            trace = min(one for one in rest if self.length(one) == longest)
            rest.remove(trace)
            answer += [trace, longest]
        return [len(answer) // 2] + answer


def made_up_call(dice, now, whole):
    """One call, with numbers so few that they meet; whole makes it likelier that a trace is whole."""
    kind = dice.below(20)
    trace = dice.below(4)
    if kind < 9:
        number = dice.below(7)
        above = dice.below(number + 1) if whole else dice.below(9)
        begins = dice.below(12)
        return span(trace, number, above - 1 if above else None, begins, begins + dice.below(9), dice.below(3),
                    max(0, dice.below(5) - 2))
    if kind < 11:
        return tick(max(0, now + dice.below(7) - 1))
    call = ANY[dice.below(len(ANY))]
    if call in (10, 11):
        return [call]
    if call == 12:
        return [call, dice.below(5)]
    return [call, trace, dice.below(7)] if call == 5 else [call, trace]


def made_up_line(dice):
    calls = [begin(dice.below(5), dice.below(20), 1 + dice.below(4))] if dice.below(8) else []
    whole = dice.below(2) == 0
    now = 0
    for at in range(20 + dice.below(60)):
        call = begin(dice.below(5), dice.below(20), dice.below(4)) if dice.below(70) == 0 else made_up_call(
            dice, now, whole)
        if call[0] == 3:
            now = max(now, call[1])
        calls.append(call)
    # At the end everything is asked once, when all was quiet for long.
    calls.append(tick(now + 10))
    calls += [[call, trace] for call in (4, 6, 7, 8, 9) for trace in range(4)]
    return calls + [[10], [11], [12, 2], [12, 9]]


class WholeProgram(unittest.TestCase):
    def test_as_the_words_tell_it(self):
        seen = {}
        for seed in range(500):
            calls = made_up_line(Dice(seed))
            house = PlainHouse()
            for call, answer in zip(calls, ask(*calls)):
                self.assertEqual(answer, house.answer(call), (seed, call))
                form = (call[0], answer[0] if answer[0] < 0 else len(answer) > 1)
                seen[form] = seen.get(form, 0) + 1
        # It would say little if hardly any of them were answered with something.
        for call in (3, 4, 6, 7, 8, 10, 11, 12):
            self.assertGreater(seen[(call, True)], 100, call)
        for form in ((1, -1), (2, -1), (2, -4), (3, -1), (4, -2), (5, -2), (5, -3), (6, -2), (6, -6), (7, -2), (7, -6),
                     (8, -2), (9, -2)):
            self.assertGreater(seen[form], 20, form)

    def test_refused_leaves_all_as_it_was(self):
        for seed in range(300):
            calls = made_up_line(Dice(seed))
            found = list(zip(calls, ask(*calls)))
            taken = [pair for pair in found if pair[1][0] >= 0]
            self.assertEqual(ask(*[pair[0] for pair in taken]), [pair[1] for pair in taken], seed)

    def test_asking_leaves_all_as_it_was(self):
        for seed in range(300):
            calls = made_up_line(Dice(seed))
            found = list(zip(calls, ask(*calls)))
            telling = [pair for pair in found if pair[0][0] <= 3]
            self.assertEqual(ask(*[pair[0] for pair in telling]), [pair[1] for pair in telling], seed)


if __name__ == "__main__":
    unittest.main()
