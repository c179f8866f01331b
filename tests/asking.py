"""What the tests ask with: the calls as lists, and their answers taken apart."""

import itertools

from glovepairs.box import answers

MOST = 4294967295


def begins(differ):
    return [0, 1, differ, 0]


def left(size):
    return [1, 1, size, 0]


def right(size):
    return [2, 1, size, 0]


def check(*plan):
    return [3, len(plan), *plan, 0]


def best():
    return [4, 0, 0]


def plain():
    return [5, 0, 0]


def needs(pairs):
    return [6, 1, pairs, 0]


def gloves(lefts, rights):
    return [left(size) for size in lefts] + [right(size) for size in rights]


def box(differ, lefts, rights):
    return [begins(differ), *gloves(lefts, rights)]


def line(*calls):
    return list(itertools.chain(*calls))


def ask(*calls):
    """The answers call by call, taken apart by the counts ahead of them."""
    answered = answers(line(*calls))
    apart = []
    at = 0
    while at < len(answered):
        count = answered[at]
        # A count below 1 would never bring this loop to its end.
        assert count >= 1, answered
        apart.append(answered[at + 1:at + 1 + count])
        at += 1 + count
    assert at == len(answered) and len(apart) == len(calls), answered
    return apart


def last(*calls):
    return ask(*calls)[-1]
