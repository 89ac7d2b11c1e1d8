"""What is answered to the calls about one trace, as lists of whole numbers."""

from tracehouse.spans import faults_of, is_whole, moments_alone, tree_rows
from tracehouse.stretches import hung_stretches, time_by_service

NO_SPAN = -3
NOT_WHOLE = -6


def counted(rows):
    """How many rows there are, then the numbers of each."""
    answer = [len(rows)]
    for row in rows:
        answer.extend(row)
    return answer


def tree_reply(trace):
    answer = [1 if is_whole(trace) else 0]
    for row in tree_rows(trace):
        answer.extend([row[0].number, row[1]])
    return answer


def alone_reply(trace, number):
    if number not in trace.spans:
        return [NO_SPAN]
    return [moments_alone(trace, trace.spans[number])]


def path_reply(trace):
    if not is_whole(trace):
        return [NOT_WHOLE]
    return counted([(stretch[0].number, stretch[1], stretch[2]) for stretch in hung_stretches(trace)])


def hung_reply(trace):
    if not is_whole(trace):
        return [NOT_WHOLE]
    return counted(time_by_service(trace))


def faults_reply(trace):
    return counted([(span.number,) for span in faults_of(trace)])
