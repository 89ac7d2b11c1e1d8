"""The house: its calls, and the list of whole numbers by which they come and are answered."""

from tracehouse.replies import alone_reply, counted, faults_reply, hung_reply, path_reply, tree_reply
from tracehouse.spans import DROPPED, KEPT, UNDECIDED, Span, Trace
from tracehouse.tallies import longest_first, service_pairs

HIGHEST = 1000000
HIGHEST_SERVICE = 15
HIGHEST_TIME = 2000000
MOST_SPANS = 60

CANNOT_BE = -1
NO_TRACE = -2
OTHER_SPAN = -4
TOO_MANY_SPANS = -5

BEGIN = 1
SPAN = 2
TICK = 3
TREE = 4
ALONE = 5
PATH = 6
HUNG = 7
FAULTS = 8
ALL_KEPT = 10
CALLS_TOLD = 11
SLOWEST = 12

# How many whole numbers follow the number of a call.
WIDTHS = {1: 3, 2: 7, 3: 1, 4: 1, 5: 2, 6: 1, 7: 1, 8: 1, 9: 1, 10: 0, 11: 0, 12: 1}


def can_be(trace_number, span):
    if max(trace_number, span.number, span.begins, span.ends) > HIGHEST:
        return False
    # within is one more than a number, so it may be one above the highest.
    if span.within > HIGHEST + 1 or span.service > HIGHEST_SERVICE:
        return False
    return span.begins < span.ends


class House:
    """All traces that were told, and the time. Each call answers a list of whole numbers."""

    def __init__(self, quiet, slow, each):
        self.start_anew(quiet, slow, each)

    def start_anew(self, quiet, slow, each):
        self.quiet = quiet
        self.slow = slow
        self.each = each
        self.now = 0
        self.traces = {}

    def begin(self, quiet, slow, each):
        if max(quiet, slow, each) > HIGHEST or each == 0:
            return [CANNOT_BE]
        self.start_anew(quiet, slow, each)
        return [0]

    def span(self, trace_number, span):
        if not can_be(trace_number, span):
            return [CANNOT_BE]
        trace = self.traces.get(trace_number, Trace(trace_number))
        if span.number in trace.spans:
            if trace.spans[span.number].facts() != span.facts():
                return [OTHER_SPAN]
            return [len(trace.spans)]
        if self.how_many_spans() >= MOST_SPANS:
            return [TOO_MANY_SPANS]
        trace.spans[span.number] = span
        trace.heard = self.now
        self.traces[trace_number] = trace
        return [len(trace.spans)]

    def how_many_spans(self):
        return sum([len(trace.spans) for trace in self.traces.values()])

    def by_number(self):
        return [self.traces[number] for number in sorted(self.traces)]

    def tick(self, now):
        if now < self.now or now > HIGHEST_TIME:
            return [CANNOT_BE]
        self.now = now
        decided = [trace for trace in self.by_number() if self.is_due(trace)]
        for trace in decided:
            trace.verdict = self.judged(trace)
        return counted([(trace.number, 1 if trace.verdict == KEPT else 0) for trace in decided])

    def is_due(self, trace):
        return trace.verdict == UNDECIDED and self.now - trace.heard >= self.quiet

    def judged(self, trace):
        if trace.has_failure() or trace.length() >= self.slow or trace.number % self.each == 0:
            return KEPT
        return DROPPED

    def those_kept(self):
        return [trace for trace in self.by_number() if trace.verdict == KEPT]

    def kept(self):
        return counted([(trace.number,) for trace in self.those_kept()])

    def calls_told(self):
        return counted(service_pairs(self.those_kept()))

    def slowest(self, how_many):
        longest = longest_first(self.those_kept())[:how_many]
        return counted([(trace.number, trace.length()) for trace in longest])


def told_span(given):
    """The span that a span call tells, from its numbers behind the trace's."""
    return Span(given[0], given[1], given[2], given[3], given[4], given[5] != 0)


def answer_to(house, call, given):
    if call == BEGIN:
        return house.begin(given[0], given[1], given[2])
    if call == SPAN:
        return house.span(given[0], told_span(given[1:]))
    if call == TICK:
        return house.tick(given[0])
    if call == ALL_KEPT:
        return house.kept()
    if call == CALLS_TOLD:
        return house.calls_told()
    if call == SLOWEST:
        return house.slowest(given[0])
    # All others are about one trace, and refuse first of all one that no span was told of.
    if given[0] not in house.traces:
        return [NO_TRACE]
    return answer_about(house.traces[given[0]], call, given)


def answer_about(trace, call, given):
    if call == TREE:
        return tree_reply(trace)
    if call == ALONE:
        return alone_reply(trace, given[1])
    if call == PATH:
        return path_reply(trace)
    if call == HUNG:
        return hung_reply(trace)
    if call == FAULTS:
        return faults_reply(trace)
    # WIDTHS has no other call but fate, and a verdict is written as fate answers it.
    return [trace.verdict]


def answers(calls):
    """For each call, in order, how many numbers are answered, then these."""
    house = House(10, 100, 10)
    answered = []
    place = 0
    while place < len(calls):
        call = calls[place]
        behind = place + 1 + WIDTHS[call]
        answer = answer_to(house, call, calls[place + 1:behind])
        answered.append(len(answer))
        answered.extend(answer)
        place = behind
    return answered
