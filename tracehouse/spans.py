"""Spans, and the traces that they make up."""

UNDECIDED = 0
KEPT = 1
DROPPED = 2


class Span:
    """One stretch of work of a service, from begins on, ahead of ends."""

    def __init__(self, number, within, service, begins, ends, failed):
        self.number = number
        # As it is told: one more than the number that it's within, 0 for nothing.
        self.within = within
        self.service = service
        self.begins = begins
        self.ends = ends
        self.failed = failed

    def facts(self):
        """All that is told of the span; two spans are the same if these are."""
        return (self.number, self.within, self.service, self.begins, self.ends, self.failed)


class Trace:
    """The spans of one trace, by their numbers, and what was decided of it."""

    def __init__(self, number):
        self.number = number
        self.spans = {}
        self.heard = 0
        self.verdict = UNDECIDED

    def in_order(self):
        return [self.spans[number] for number in sorted(self.spans)]

    def outermost(self):
        """The spans that are within nothing, in order."""
        return [span for span in self.in_order() if span.within == 0]

    def right_within(self, number):
        """The spans right within the one of that number, in order."""
        return [span for span in self.in_order() if span.within == number + 1]

    def around(self, span):
        """The span that this one is right within, or None if it's within nothing, or that wasn't told."""
        # Within nothing is told as 0, and no span has the number -1.
        return self.spans.get(span.within - 1)

    def has_failure(self):
        return any([span.failed for span in self.spans.values()])

    def length(self):
        """From the first moment in which a span works to the end of the one that ends last."""
        first = min([span.begins for span in self.spans.values()])
        last = max([span.ends for span in self.spans.values()])
        return last - first


def tree_rows(trace):
    """The trace's tree: a pair of a span and its depth for each span in it."""
    rows = []
    waiting = [(span, 0) for span in reversed(trace.outermost())]
    # Spans within one another in a ring are below nothing outermost, so this ends.
    while len(waiting) > 0:
        row = waiting.pop()
        rows.append(row)
        below = trace.right_within(row[0].number)
        # What waits last is taken first, so the least number has to wait last.
        waiting.extend([(span, row[1] + 1) for span in reversed(below)])
    return rows


def is_whole(trace):
    return len(trace.outermost()) == 1 and len(tree_rows(trace)) == len(trace.spans)


def moments_alone(trace, span):
    """In how many of the span's moments none right within it works."""
    moments = 0
    reached = span.begins
    for inner in sorted(trace.right_within(span.number), key=lambda one: one.begins):
        moments += max(0, min(inner.begins, span.ends) - reached)
        reached = max(reached, inner.ends)
    return moments + max(0, span.ends - reached)


def faults_of(trace):
    """The spans that failed, with none right within them that failed, in order."""
    failures = [span for span in trace.in_order() if span.failed]
    blamed_on = [span.within for span in failures]
    return [span for span in failures if span.number + 1 not in blamed_on]
