"""The calls on a row of things and on partitions, and their answers."""

from partsandsets.partitions import diagonal_of, has_equal_parts, has_even_part, is_partition, square_of
from partsandsets.partitions import to_different_parts, to_odd_parts, turned_about
from partsandsets.rows import are_in_order, places_of, row_of, size_of, things_of
from partsandsets.sized import SizedSets

BEGIN = 1
COUNT = 2
MAKE = 3
NUMBER = 4
LIST = 5
NEXT = 6
TURN = 7
ODD = 8
ONCE = 9

# By the call's number: how many whole numbers it has ahead of its list, if it has one.
PLAIN_NUMBERS = {1: 0, 2: 4, 3: 5, 4: 3, 5: 4, 6: 3, 7: 0, 8: 0, 9: 0, 10: 0}
CALLS_WITH_LIST = (1, 4, 6, 7, 8, 9, 10)

OUT_OF_BOUNDS = -1
NO_SUCH_SET = -3
NO_SUCH_PARTITION = -3
WRONG_PARTS = -4
TOO_LONG_A_LIST = -5
LAST_SET = -6
TOO_MANY_SETS = -7

MOST_SIZES = 60
MOST_THINGS = 60
MOST_SIZE = 60
MOST_SETS = 1000000000000000000
MOST_LISTED = 200


def answers(calls):
    """The answers to a line of calls, each with how many numbers it has before it."""
    row = row_of([1] * MOST_SIZES)
    told = []
    at = 0
    while at < len(calls):
        end = end_of_call(calls, at)
        call = calls[at:end]
        answer = answer_to(row, call)
        if call[0] == BEGIN and answer[0] >= 0:
            row = row_of(call[2:])
        told.append(len(answer))
        told.extend(answer)
        at = end
    return told


def end_of_call(calls, at):
    """Where the call that begins at this place ends."""
    end = at + 1 + PLAIN_NUMBERS[calls[at]]
    if calls[at] in CALLS_WITH_LIST:
        end += 1 + calls[end]
    return end


def answer_to(row, call):
    if call[0] == BEGIN:
        return begin(call[2:])
    if call[0] == COUNT:
        return count(row, call[1], call[2], call[3], call[4])
    if call[0] == MAKE:
        return make(row, call[1], call[2], call[3], call[4], call[5])
    if call[0] == NUMBER:
        return number(row, call[1], call[2], call[3], call[5:])
    if call[0] == LIST:
        return list_all(row, call[1], call[2], call[3], call[4])
    if call[0] == NEXT:
        return next_set(row, call[1], call[2], call[3], call[5:])
    return answer_about_parts(call[0], call[2:])


def answer_about_parts(asked, parts):
    """The answer to turn, odd, once or diagonal, which all refuse first what is no partition."""
    if not is_partition(parts):
        return [NO_SUCH_PARTITION]
    if asked == TURN:
        return parts_told(turned_about(parts))
    if asked == ODD:
        return [WRONG_PARTS] if has_equal_parts(parts) else parts_told(to_odd_parts(parts))
    if asked == ONCE:
        return [WRONG_PARTS] if has_even_part(parts) else parts_told(to_different_parts(parts))
    return [square_of(parts)] + diagonal_of(parts)


def begin(how_many):
    if len(how_many) > MOST_SIZES or sum(how_many) > MOST_THINGS:
        return [OUT_OF_BOUNDS]
    return [sum(how_many)]


def count(row, repeats, size, lo, hi):
    if repeats > 1 or size > MOST_SIZE:
        return [OUT_OF_BOUNDS]
    sets = SizedSets(row, repeats, size, lo, hi)
    if sets.how_many() > MOST_SETS:
        return [TOO_MANY_SETS]
    return [sets.how_many()]


def make(row, repeats, size, lo, hi, k):
    if repeats > 1 or size > MOST_SIZE:
        return [OUT_OF_BOUNDS]
    sets = SizedSets(row, repeats, size, lo, hi)
    if sets.how_many() > MOST_SETS:
        return [TOO_MANY_SETS]
    if k >= sets.how_many():
        return [NO_SUCH_SET]
    return [sets.how_many()] + set_told(sets.set_at(k))


def number(row, repeats, lo, hi, numbers):
    refusal = refusal_of_things(row, repeats, lo, hi, numbers)
    if refusal is not None:
        return [refusal]
    sets = SizedSets(row, repeats, size_of(things_of(numbers)), lo, hi)
    if sets.how_many() > MOST_SETS:
        return [TOO_MANY_SETS]
    return [sets.number_of(places_of(row, things_of(numbers))), sets.size]


def next_set(row, repeats, lo, hi, numbers):
    refusal = refusal_of_things(row, repeats, lo, hi, numbers)
    if refusal is not None:
        return [refusal]
    sets = SizedSets(row, repeats, size_of(things_of(numbers)), lo, hi)
    if sets.how_many() > MOST_SETS:
        return [TOO_MANY_SETS]
    following = sets.number_of(places_of(row, things_of(numbers))) + 1
    if following == sets.how_many():
        return [LAST_SET]
    return [following] + set_told(sets.set_at(following))


def refusal_of_things(row, repeats, lo, hi, numbers):
    """Why number and next refuse these things, before sets are counted; None if they don't."""
    if len(numbers) % 2 == 1:
        return NO_SUCH_SET
    if repeats > 1:
        return OUT_OF_BOUNDS
    things = things_of(numbers)
    places = places_of(row, things)
    if places is None or not are_in_order(places, repeats) or len(places) < lo or len(places) > hi:
        return NO_SUCH_SET
    if size_of(things) > MOST_SIZE:
        return OUT_OF_BOUNDS
    return None


def list_all(row, repeats, size, lo, hi):
    if repeats > 1 or size > MOST_SIZE:
        return [OUT_OF_BOUNDS]
    sets = SizedSets(row, repeats, size, lo, hi)
    if sets.how_many() > MOST_SETS:
        return [TOO_MANY_SETS]
    if sets.how_many() > MOST_LISTED:
        return [TOO_LONG_A_LIST]
    answer = [sets.how_many()]
    for k in range(sets.how_many()):
        answer.extend(set_told(sets.set_at(k)))
    return answer


def set_told(things):
    """A set as it is answered: how many things, then of each its size and its number."""
    told = [len(things)]
    for thing in things:
        told.append(thing[0])
        told.append(thing[1])
    return told


def parts_told(parts):
    """A partition as it is answered: how many parts, then these."""
    return [len(parts)] + parts
