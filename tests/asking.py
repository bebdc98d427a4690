"""What the tests share: calls written out, answers taken apart, and sets and partitions found by trying all."""

from itertools import combinations, combinations_with_replacement

from partsandsets.things import answers

MOST = 2 ** 64 - 1
TWICE_OF_TWO = [1, 2, 1]

# Found by search: with repeats just 10^18 sets of size 60; three things fewer than 60.
JUST_ALL = [7, 21, 1, 2, 0, 1, 0, 0, 0, 1, 0, 0, 0, 1, 0, 0, 1, 0, 0, 0, 0, 0, 1, 0, 1, 0, 1, 1, 0, 0,
            0, 1, 0, 0, 0, 1, 0, 1, 0, 1, 0, 0, 0, 1, 1, 1, 1, 3, 0, 1, 0, 1, 0, 0, 0, 0, 1, 3, 1, 0]
ONE_TOO_MANY = JUST_ALL[:59] + [1]

# Without repeats, of size 3: 200 sets of two things and one of one thing.
TWO_HUNDRED = [20, 10, 1]


def begin(how_many):
    return [1, len(how_many)] + how_many


def count(repeats, size, lo, hi):
    return [2, repeats, size, lo, hi]


def make(repeats, size, lo, hi, k):
    return [3, repeats, size, lo, hi, k]


def number(repeats, lo, hi, things):
    return [4, repeats, lo, hi, len(things)] + things


def listing(repeats, size, lo, hi):
    return [5, repeats, size, lo, hi]


def following(repeats, lo, hi, things):
    return [6, repeats, lo, hi, len(things)] + things


def turn(parts):
    return [7, len(parts)] + parts


def odd(parts):
    return [8, len(parts)] + parts


def once(parts):
    return [9, len(parts)] + parts


def diagonal(parts):
    return [10, len(parts)] + parts


def ask(*calls):
    """The answers to these calls, a list for each."""
    told = answers([each for call in calls for each in call])
    parts = []
    at = 0
    while at < len(told):
        parts.append(told[at + 1:at + 1 + told[at]])
        at += 1 + told[at]
    if at != len(told) or len(parts) != len(calls):
        raise AssertionError(f"{len(calls)} calls, answered by {told}")
    return parts


def last_answer(*calls):
    return ask(*calls)[-1]


def sets_by_trying(how_many, repeats, size, lo, hi):
    """All sets in order, each a tuple of pairs. Pairs compare as things stand, tuples as sets do."""
    things = [(at + 1, each) for at, many in enumerate(how_many) for each in range(many)]
    choose = combinations if repeats else combinations_with_replacement
    found = []
    for length in range(lo, min(hi, size) + 1):
        found += [one for one in choose(things, length) if sum(weight for weight, each in one) == size]
    return sorted(found)


def partitions_of(size, most=None):
    """All partitions of this size into parts of at most so much."""
    if size == 0:
        return [[]]
    found = []
    for greatest in range(1, min(size, size if most is None else most) + 1):
        found += [[greatest] + rest for rest in partitions_of(size - greatest, greatest)]
    return found


def ask_all(calls, ahead=()):
    """The answers to any number of calls: a line has 60 at the most, so these are asked by lines, each behind ahead."""
    answered = []
    step = 60 - len(ahead)
    for at in range(0, len(calls), step):
        answered += ask(*ahead, *calls[at:at + step])[len(ahead):]
    return answered


def flat(one):
    return [each for thing in one for each in thing]


def told(one):
    return [len(one)] + flat(one)
