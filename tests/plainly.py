"""Each call answered in the plainest way, by writing all sets or cells out, to hold the program's answers against."""

from asking import told


def sets_in_order(things, repeats, size, lo, hi):
    """All sets, each a tuple of pairs, by trying at each step each thing that may come next."""
    found = []
    open_ends = [((), 0, size)]
    while open_ends:
        chosen, start, left = open_ends.pop()
        if left == 0 and lo <= len(chosen) <= hi:
            found.append(chosen)
        for place in range(start, len(things)):
            if things[place][0] <= left:
                open_ends.append((chosen + (things[place],), place + repeats, left - things[place][0]))
    return sorted(found)


def cells_turned(parts):
    """A partition drawn as cells, row by row, and read column by column."""
    columns = {}
    for part in parts:
        for across in range(part):
            columns[across] = columns.get(across, 0) + 1
    return [columns[across] for across in sorted(columns)]


def halved(parts):
    """Each even part made into two halves until all are odd."""
    left = list(parts)
    done = []
    while left:
        part = left.pop()
        if part % 2:
            done.append(part)
        else:
            left += [part // 2, part // 2]
    return sorted(done, reverse=True)


def joined(parts):
    """Two equal parts made into one until all are different."""
    left = sorted(parts)
    for part in left:
        if left.count(part) > 1:
            left.remove(part)
            left.remove(part)
            return joined(left + [2 * part])
    return left[::-1]


def by_the_cells(parts):
    """The square and the diagonal: of each cell on the diagonal, the cells right of it, and those below it."""
    turned = cells_turned(parts)
    side = max(each for each in range(len(parts) + 1) if all(part >= each for part in parts[:each]))
    answer = [side]
    for at in range(side):
        answer += [len(range(at + 1, parts[at])), len(range(at + 1, turned[at]))]
    return answer


class Plainly:
    """Answers call by call; only for sizes, or bounds, that leave so few sets that they can be written out."""

    def __init__(self):
        self.things = [(size, 0) for size in range(1, 61)]

    def answer(self, call):
        if call[0] == 1:
            return self.begin(call[2:])
        if call[0] in (2, 3, 5):
            return self.of_a_size(call)
        if call[0] in (4, 6):
            return self.of_a_set(call)
        return self.of_parts(call[0], call[2:])

    def begin(self, how_many):
        if len(how_many) > 60 or sum(how_many) > 60:
            return [-1]
        self.things = [(at + 1, each) for at, many in enumerate(how_many) for each in range(many)]
        return [len(self.things)]

    def of_a_size(self, call):
        repeats, size, lo, hi = call[1:5]
        if repeats > 1 or size > 60:
            return [-1]
        sets = sets_in_order(self.things, repeats, size, lo, hi)
        if call[0] == 2:
            return [len(sets)]
        if call[0] == 3:
            return [len(sets)] + told(sets[call[5]]) if call[5] < len(sets) else [-3]
        return [len(sets)] + [each for one in sets for each in told(one)] if len(sets) <= 200 else [-5]

    def of_a_set(self, call):
        repeats, lo, hi = call[1:4]
        numbers = call[5:]
        if len(numbers) % 2:
            return [-3]
        if repeats > 1:
            return [-1]
        one = tuple(zip(numbers[::2], numbers[1::2]))
        if set(one) - set(self.things) or list(one) != sorted(one) or not lo <= len(one) <= hi:
            return [-3]
        if repeats and len(set(one)) < len(one):
            return [-3]
        size = sum(numbers[::2])
        if size > 60:
            return [-1]
        sets = sets_in_order(self.things, repeats, size, lo, hi)
        at = sets.index(one)
        if call[0] == 4:
            return [at, size]
        return [at + 1] + told(sets[at + 1]) if at + 1 < len(sets) else [-6]

    def of_parts(self, asked, parts):
        if 0 in parts or parts != sorted(parts, reverse=True) or sum(parts) > 60:
            return [-3]
        if asked == 10:
            return by_the_cells(parts)
        if asked == 8 and len(set(parts)) < len(parts) or asked == 9 and any(part % 2 == 0 for part in parts):
            return [-4]
        other = {7: cells_turned, 8: halved, 9: joined}[asked](parts)
        return [len(other)] + other
