"""What a whole hung on, as stretches one behind another."""


def last_to_end(spans, start, end):
    """Of the spans that end behind start, at end or ahead of it, the one that ends last, or None."""
    last = None
    for span in spans:
        # The spans come by their numbers: of those that end together the first one stays.
        if start < span.ends <= end and (last is None or span.ends > last.ends):
            last = span
    return last


def hung_stretches(trace):
    """Of a whole trace: a tuple of a span, from when and up to when for each stretch."""
    whole = trace.outermost()[0]
    backward = []
    waiting = [(whole, whole.begins, whole.ends)]
    # It's gone through from the end to the beginning: what waits last is the latest part.
    while len(waiting) > 0:
        part = waiting.pop()
        span = part[0]
        start = part[1]
        end = part[2]
        if end <= start:
            continue
        inner = last_to_end(trace.right_within(span.number), start, end)
        if inner is None:
            backward.append(part)
            continue
        if inner.ends < end:
            backward.append((span, inner.ends, end))
        middle = max(inner.begins, start)
        waiting.append((span, start, middle))
        waiting.append((inner, middle, inner.ends))
    return list(reversed(backward))


def time_by_service(trace):
    """Of a whole trace: a pair of a service and how long the whole hung on it, by the services' numbers."""
    times = {}
    for stretch in hung_stretches(trace):
        service = stretch[0].service
        times[service] = times.get(service, 0) + stretch[2] - stretch[1]
    return [(service, times[service]) for service in sorted(times)]
