"""What is told over several traces together."""


def service_pairs(traces):
    """By services: the first, the second, how many spans of the second are right within one of the first, and how
    many of these failed."""
    asked = {}
    failed = {}
    for trace in traces:
        for span in trace.in_order():
            outer = trace.around(span)
            if outer is None:
                continue
            pair = (outer.service, span.service)
            asked[pair] = asked.get(pair, 0) + 1
            failed[pair] = failed.get(pair, 0) + (1 if span.failed else 0)
    return [(pair[0], pair[1], asked[pair], failed[pair]) for pair in sorted(asked)]


def longest_first(traces):
    """The longest first, of as long ones the one with the lesser number."""
    return sorted(traces, key=lambda trace: (-trace.length(), trace.number))
