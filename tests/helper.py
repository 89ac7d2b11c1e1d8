"""What the tests share: writing calls, reading answers, and made-up spans."""

from tracehouse.house import answers

TOP = 2 ** 64 - 1


def begin(quiet, slow, each):
    return [1, quiet, slow, each]


def span(trace, number, within, begins, ends, service=0, failed=0):
    """within is the number of a span, or None."""
    return [2, trace, number, 0 if within is None else within + 1, service, begins, ends, failed]


def tick(now):
    return [3, now]


def tree(trace):
    return [4, trace]


def alone(trace, number):
    return [5, trace, number]


def path(trace):
    return [6, trace]


def hung(trace):
    return [7, trace]


def faults(trace):
    return [8, trace]


def fate(trace):
    return [9, trace]


def kept():
    return [10]


def calls_told():
    return [11]


def slowest(n):
    return [12, n]


def flat(calls):
    return [number for call in calls for number in call]


def split(numbers):
    """The answers, one list for each call."""
    found = []
    place = 0
    while place < len(numbers):
        behind = place + 1 + numbers[place]
        if numbers[place] < 1 or behind > len(numbers):
            raise ValueError("the counts don't fit the answers")
        found.append(numbers[place + 1:behind])
        place = behind
    return found


def ask(*calls):
    """The answer of each call."""
    found = split(answers(flat(calls)))
    if len(found) != len(calls):
        raise ValueError("not one answer for each call")
    return found


def last(*calls):
    """The answer of the last call."""
    return ask(*calls)[-1]


def rows_of(width, answer):
    """The rows of an answer that tells first how many there are."""
    if len(answer) != 1 + width * answer[0]:
        raise ValueError("not so many rows as told")
    return [tuple(answer[at:at + width]) for at in range(1, len(answer), width)]


class Dice:
    """Made-up numbers that are the same in every run and on every Python."""

    def __init__(self, seed):
        self.state = seed * 2654435761 + 12345

    def below(self, bound):
        self.state = (self.state * 6364136223846793005 + 1442695040888963407) % 2 ** 64
        return (self.state >> 33) % bound

    def shuffled(self, things):
        rest = list(things)
        mixed = []
        while rest:
            mixed.append(rest.pop(self.below(len(rest))))
        return mixed


def made_up_whole(dice, trace=1, most=9, moments=12):
    """Span calls of a whole trace: each span but the first within an earlier one, at any times."""
    numbers = dice.shuffled(range(20))
    calls = []
    for at in range(1 + dice.below(most)):
        begins = dice.below(moments)
        ends = begins + 1 + dice.below(moments - begins)
        within = None if at == 0 else numbers[dice.below(at)]
        calls.append(span(trace, numbers[at], within, begins, ends, dice.below(16), dice.below(3)))
    return calls
