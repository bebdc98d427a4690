"""Partitions: parts from 1 on, the greatest first. All but is_partition take such parts for granted."""

MOST_TOGETHER = 60


def is_partition(parts):
    if sum(parts) > MOST_TOGETHER:
        return False
    for at, part in enumerate(parts):
        if part < 1:
            return False
        if at > 0 and part > parts[at - 1]:
            return False
    return True


def has_equal_parts(parts):
    # The greatest part comes first, so equal parts stand side by side.
    for at in range(1, len(parts)):
        if parts[at] == parts[at - 1]:
            return True
    return False


def has_even_part(parts):
    return any([part % 2 == 0 for part in parts])


def turned_about(parts):
    """How many parts are at least 1, at least 2, and so on, up to the greatest."""
    greatest = max(parts, default=0)
    return [how_many_reach(parts, least) for least in range(1, greatest + 1)]


def how_many_reach(parts, least):
    return len([part for part in parts if part >= least])


def square_of(parts):
    """How many of the parts are at least their number, from 1 on."""
    return len([part for at, part in enumerate(parts) if part >= at + 1])


def diagonal_of(parts):
    """For each i up to the square: how much part i, here and turned about, is more than i."""
    turned = turned_about(parts)
    diagonal = []
    for at in range(square_of(parts)):
        diagonal.append(parts[at] - (at + 1))
        diagonal.append(turned[at] - (at + 1))
    return diagonal


def to_odd_parts(parts):
    """For each part, an odd number times a power of two, that odd number as often as this power is."""
    odd_parts = []
    for part in parts:
        odd = odd_number_in(part)
        odd_parts.extend([odd] * (part // odd))
    return sorted(odd_parts, reverse=True)


def odd_number_in(part):
    odd = part
    while odd % 2 == 0:
        odd //= 2
    return odd


def to_different_parts(parts):
    """For each odd number, the powers of two that make up how often it comes, each times that number."""
    times = {}
    for part in parts:
        times[part] = times.get(part, 0) + 1
    different = []
    for odd in times:
        for power in powers_in(times[odd]):
            different.append(power * odd)
    return sorted(different, reverse=True)


def powers_in(many):
    """The different powers of two that many is the sum of."""
    powers = []
    power = 1
    while power <= many:
        if many // power % 2 == 1:
            powers.append(power)
        power *= 2
    return powers
