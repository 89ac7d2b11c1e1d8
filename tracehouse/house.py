"""The house: its calls, and the list of whole numbers by which they come and are answered."""

from tracehouse.spans import DROPPED, KEPT, UNDECIDED, Span, Trace, is_whole, moments_alone, tree_rows
from tracehouse.stretches import hung_stretches

HIGHEST = 1000000
HIGHEST_SERVICE = 15
HIGHEST_TIME = 2000000
MOST_SPANS = 60

CANNOT_BE = -1
NO_TRACE = -2
NO_SPAN = -3
OTHER_SPAN = -4
TOO_MANY_SPANS = -5
NOT_WHOLE = -6

BEGIN = 1
SPAN = 2
TICK = 3
TREE = 4
ALONE = 5

# How many whole numbers follow the number of a call.
WIDTHS = {1: 3, 2: 7, 3: 1, 4: 1, 5: 2, 6: 1}


def can_be(trace_number, span):
    if max(trace_number, span.number, span.begins, span.ends) > HIGHEST:
        return False
    # within is one more than a number, so it may be one above the highest.
    if span.within > HIGHEST + 1 or span.service > HIGHEST_SERVICE:
        return False
    return span.begins < span.ends


class House:
    """All traces that were told, and the time. Each call answers a list of whole numbers."""

    def __init__(self, quiet, slow, each):
        self.start_anew(quiet, slow, each)

    def start_anew(self, quiet, slow, each):
        self.quiet = quiet
        self.slow = slow
        self.each = each
        self.now = 0
        self.traces = {}

    def begin(self, quiet, slow, each):
        if max(quiet, slow, each) > HIGHEST or each == 0:
            return [CANNOT_BE]
        self.start_anew(quiet, slow, each)
        return [0]

    def span(self, trace_number, span):
        if not can_be(trace_number, span):
            return [CANNOT_BE]
        trace = self.traces.get(trace_number, Trace(trace_number))
        if span.number in trace.spans:
            if trace.spans[span.number].facts() != span.facts():
                return [OTHER_SPAN]
            return [len(trace.spans)]
        if self.how_many_spans() >= MOST_SPANS:
            return [TOO_MANY_SPANS]
        trace.spans[span.number] = span
        trace.heard = self.now
        self.traces[trace_number] = trace
        return [len(trace.spans)]

    def how_many_spans(self):
        return sum([len(trace.spans) for trace in self.traces.values()])

    def tick(self, now):
        if now < self.now or now > HIGHEST_TIME:
            return [CANNOT_BE]
        self.now = now
        decided = [self.traces[number] for number in sorted(self.traces) if self.is_due(self.traces[number])]
        answer = [len(decided)]
        for trace in decided:
            trace.verdict = self.judged(trace)
            answer.extend([trace.number, 1 if trace.verdict == KEPT else 0])
        return answer

    def is_due(self, trace):
        return trace.verdict == UNDECIDED and self.now - trace.heard >= self.quiet

    def judged(self, trace):
        if trace.has_failure() or trace.length() >= self.slow or trace.number % self.each == 0:
            return KEPT
        return DROPPED

    def tree(self, trace_number):
        if trace_number not in self.traces:
            return [NO_TRACE]
        trace = self.traces[trace_number]
        answer = [1 if is_whole(trace) else 0]
        for row in tree_rows(trace):
            answer.extend([row[0].number, row[1]])
        return answer

    def alone(self, trace_number, number):
        if trace_number not in self.traces:
            return [NO_TRACE]
        trace = self.traces[trace_number]
        if number not in trace.spans:
            return [NO_SPAN]
        return [moments_alone(trace, trace.spans[number])]

    def path(self, trace_number):
        if trace_number not in self.traces:
            return [NO_TRACE]
        trace = self.traces[trace_number]
        if not is_whole(trace):
            return [NOT_WHOLE]
        stretches = hung_stretches(trace)
        answer = [len(stretches)]
        for stretch in stretches:
            answer.extend([stretch[0].number, stretch[1], stretch[2]])
        return answer


def told_span(given):
    """The span that a span call tells, from its numbers behind the trace's."""
    return Span(given[0], given[1], given[2], given[3], given[4], given[5] != 0)


def answer_to(house, call, given):
    if call == BEGIN:
        return house.begin(given[0], given[1], given[2])
    if call == SPAN:
        return house.span(given[0], told_span(given[1:]))
    if call == TICK:
        return house.tick(given[0])
    if call == TREE:
        return house.tree(given[0])
    if call == ALONE:
        return house.alone(given[0], given[1])
    # WIDTHS has no other call but path.
    return house.path(given[0])


def answers(calls):
    """For each call, in order, how many numbers are answered, then these."""
    house = House(10, 100, 10)
    answered = []
    place = 0
    while place < len(calls):
        call = calls[place]
        behind = place + 1 + WIDTHS[call]
        answer = answer_to(house, call, calls[place + 1:behind])
        answered.append(len(answer))
        answered.extend(answer)
        place = behind
    return answered
