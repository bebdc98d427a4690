"""The calls on a row of things, and their answers."""

from partsandsets.rows import are_in_order, places_of, row_of, things_of
from partsandsets.sized import SizedSets

BEGIN = 1
COUNT = 2
MAKE = 3
NUMBER = 4
LIST = 5

# By the call's number: how many whole numbers it has ahead of its list, if it has one.
PLAIN_NUMBERS = {1: 0, 2: 4, 3: 5, 4: 3, 5: 4}
CALLS_WITH_LIST = (1, 4)

OUT_OF_BOUNDS = -1
NO_SUCH_SET = -3
TOO_LONG_A_LIST = -5
TOO_MANY_SETS = -7

MOST_SIZES = 60
MOST_THINGS = 60
MOST_SIZE = 60
MOST_SETS = 1000000000000000000
MOST_LISTED = 200


def answers(calls):
    """The answers to a line of calls, each with how many numbers it has before it."""
    row = row_of([1] * MOST_SIZES)
    told = []
    at = 0
    while at < len(calls):
        end = end_of_call(calls, at)
        call = calls[at:end]
        answer = answer_to(row, call)
        if call[0] == BEGIN and answer[0] >= 0:
            row = row_of(call[2:])
        told.append(len(answer))
        told.extend(answer)
        at = end
    return told


def end_of_call(calls, at):
    """Where the call that begins at this place ends."""
    end = at + 1 + PLAIN_NUMBERS[calls[at]]
    if calls[at] in CALLS_WITH_LIST:
        end += 1 + calls[end]
    return end


def answer_to(row, call):
    if call[0] == BEGIN:
        return begin(call[2:])
    if call[0] == COUNT:
        return count(row, call[1], call[2], call[3], call[4])
    if call[0] == MAKE:
        return make(row, call[1], call[2], call[3], call[4], call[5])
    if call[0] == NUMBER:
        return number(row, call[1], call[2], call[3], call[5:])
    return list_all(row, call[1], call[2], call[3], call[4])


def begin(how_many):
    if len(how_many) > MOST_SIZES or sum(how_many) > MOST_THINGS:
        return [OUT_OF_BOUNDS]
    return [sum(how_many)]


def count(row, repeats, size, lo, hi):
    if repeats > 1 or size > MOST_SIZE:
        return [OUT_OF_BOUNDS]
    sets = SizedSets(row, repeats, size, lo, hi)
    if sets.how_many() > MOST_SETS:
        return [TOO_MANY_SETS]
    return [sets.how_many()]


def make(row, repeats, size, lo, hi, k):
    if repeats > 1 or size > MOST_SIZE:
        return [OUT_OF_BOUNDS]
    sets = SizedSets(row, repeats, size, lo, hi)
    if sets.how_many() > MOST_SETS:
        return [TOO_MANY_SETS]
    if k >= sets.how_many():
        return [NO_SUCH_SET]
    return [sets.how_many()] + set_told(sets.set_at(k))


def number(row, repeats, lo, hi, numbers):
    if len(numbers) % 2 == 1:
        return [NO_SUCH_SET]
    if repeats > 1:
        return [OUT_OF_BOUNDS]
    things = things_of(numbers)
    places = places_of(row, things)
    if places is None or not are_in_order(places, repeats) or len(places) < lo or len(places) > hi:
        return [NO_SUCH_SET]
    size = sum([thing[0] for thing in things])
    if size > MOST_SIZE:
        return [OUT_OF_BOUNDS]
    sets = SizedSets(row, repeats, size, lo, hi)
    if sets.how_many() > MOST_SETS:
        return [TOO_MANY_SETS]
    return [sets.number_of(places), size]


def list_all(row, repeats, size, lo, hi):
    if repeats > 1 or size > MOST_SIZE:
        return [OUT_OF_BOUNDS]
    sets = SizedSets(row, repeats, size, lo, hi)
    if sets.how_many() > MOST_SETS:
        return [TOO_MANY_SETS]
    if sets.how_many() > MOST_LISTED:
        return [TOO_LONG_A_LIST]
    answer = [sets.how_many()]
    for k in range(sets.how_many()):
        answer.extend(set_told(sets.set_at(k)))
    return answer


def set_told(things):
    """A set as it is answered: how many things, then of each its size and its number."""
    told = [len(things)]
    for thing in things:
        told.append(thing[0])
        told.append(thing[1])
    return told
