"""The row of things. A thing is a pair: its size, and its number among those of that size."""


def row_of(how_many):
    """All things in order, so many of size 1, of size 2, and so on."""
    row = []
    for at, many in enumerate(how_many):
        for number in range(many):
            row.append((at + 1, number))
    return row


def things_of(numbers):
    """The pairs that stand in a list, one behind another."""
    return [(numbers[at], numbers[at + 1]) for at in range(0, len(numbers), 2)]


def size_of(things):
    return sum([thing[0] for thing in things])


def places_of(row, things):
    """Where in the row each thing stands; None if one of them is not there."""
    place_of = {}
    for place, thing in enumerate(row):
        place_of[thing] = place
    places = []
    for thing in things:
        if thing not in place_of:
            return None
        places.append(place_of[thing])
    return places


def are_in_order(places, repeats):
    """Whether each place is late enough behind the one ahead of it to make a set."""
    for at in range(1, len(places)):
        # With repeats (0) the same place may come again, without (1) only a later one may.
        if places[at] < places[at - 1] + repeats:
            return False
    return True
