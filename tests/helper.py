"""Calls by their names, and answers call by call."""

from foilcuts.webs import answers

BIGGEST = 4294967295


def start(lanes=1, long=10, short=2, tall=3, w0=2, w1=3):
    return [0, lanes, long, short, tall, w0, w1]


def coat(n):
    return [1, n]


def fault(lane, begin, end):
    return [2, lane, begin, end]


def mend(f):
    return [3, f]


def stretches(lane):
    return [4, lane]


def best(s):
    return [5, s]


def plan(lane):
    return [6, lane]


def worth(lane):
    return [7, lane]


def total():
    return [8]


def alone(size):
    return [9, size]


def fits(lane, begin, size):
    return [10, lane, begin, size]


def following(lane, begin, size):
    """The call next."""
    return [11, lane, begin, size]


def stamp(lane, begin, size):
    return [12, lane, begin, size]


def follow(lane):
    return [13, lane]


def lift(s):
    return [14, s]


def gain(f):
    return [15, f]


def worst():
    return [16]


def sheet(s):
    return [17, s]


def metres():
    return [18]


def state():
    return [19]


def ask(*calls):
    """The answers to a line of calls, each as a list of its numbers."""
    given = answers([number for call in calls for number in call])
    split = []
    at = 0
    while at < len(given):
        behind = at + 1 + given[at]
        split.append(given[at + 1:behind])
        at = behind
    if at != len(given) or len(split) != len(calls):
        raise AssertionError(f"{len(calls)} calls were answered by {given}")
    return split


def last(*calls):
    """The answer to the last of the calls."""
    return ask(*calls)[-1]


class Draw:
    """Numbers that look drawn, yet are the same ones under every Python."""

    def __init__(self, seed):
        self.kept = seed * 2 + 1

    def below(self, many):
        self.kept = (self.kept * 6364136223846793005 + 1442695040888963407) % 2 ** 64
        return (self.kept >> 33) % many

    def one_of(self, choices):
        return choices[self.below(len(choices))]
