"""The sets of one size, in their order: how many there are, which is number k, which number one has."""


def ways_behind_all(size, lo, hi):
    """The ways to end a set when no thing is left to take: one, if nothing lacks and it has lo to hi things."""
    ways = [[1 if lo <= used and used <= hi else 0 for used in range(size + 1)]]
    for left in range(1, size + 1):
        ways.append([0] * (size + 1 - left))
    return ways


def ways_with_thing(later, weight, repeats):
    """The ways from a thing of this weight on, out of the ways from behind it."""
    here = []
    for left in range(len(later)):
        skipped = later[left]
        if left < weight:
            here.append(skipped)
        else:
            # With repeats the thing itself may come again, so what follows it is counted from here.
            taken = here[left - weight] if repeats == 0 else later[left - weight]
            here.append([skipped[used] + taken[used + 1] for used in range(len(skipped))])
    return here


def ways_from_each(row, repeats, size, lo, hi):
    """For each place, size that lacks and number of things used: in how many ways the set may be ended.

    Each thing weighs 1 at the least, so where left lacks, at most size - left things are used.
    """
    ways = [ways_behind_all(size, lo, hi)]
    for thing in reversed(row):
        ways.append(ways_with_thing(ways[-1], thing[0], repeats))
    ways.reverse()
    return ways


class SizedSets:
    """The sets of a size that have from lo to hi things of a row; repeats is 0 (with) or 1 (without)."""

    def __init__(self, row, repeats, size, lo, hi):
        self.row = row
        self.repeats = repeats
        self.size = size
        self.ways = ways_from_each(row, repeats, size, lo, hi)

    def how_many(self):
        return self.ways[0][self.size][0]

    def how_many_take(self, place, left, used):
        """How many ends of a set, of size left behind used things, have as their first the thing at place."""
        weight = self.row[place][0]
        if left < weight:
            return 0
        return self.ways[place + self.repeats][left - weight][used + 1]

    def set_at(self, k):
        """The things of set number k, which is below how many there are."""
        chosen = []
        ahead = k
        place = 0
        left = self.size
        while left > 0:
            taking = self.how_many_take(place, left, len(chosen))
            if ahead < taking:
                chosen.append(self.row[place])
                left -= self.row[place][0]
                place += self.repeats
            else:
                ahead -= taking
                place += 1
        return chosen

    def number_of(self, places):
        """The number of the set whose things stand at these places: how many sets come ahead of it."""
        ahead = 0
        start = 0
        left = self.size
        for used, place in enumerate(places):
            for earlier in range(start, place):
                ahead += self.how_many_take(earlier, left, used)
            left -= self.row[place][0]
            start = place + self.repeats
        return ahead
