"""Schedules of blocks (point 20)."""

from trireme.bounds import best_busy, best_reason, best_row, number_of, reason_for
from trireme.needs import needs
from trireme.placing import earliest_places, find_places

# Up to so many instructions all schedules are tried.
MOST_EXACT = 6
# How many tries there are for each length where there are more.
TRIES = 500


def schedule(machine, block):
    """Return a right schedule, its length, and a reason with that number or None."""
    wanted = needs(machine, block)
    reason = best_reason([best_busy(machine, block), best_row(wanted, len(block))])
    if reason is None:
        return (), 0, None
    places = shortest(machine, block, wanted, number_of(reason))
    length = length_of(places)
    return places, length, reason_for(reason, length)


def length_of(places):
    """Return the number of words of a schedule."""
    return max([cycle + 1 for cycle, slot in places], default=0)


def shortest(machine, block, wanted, least):
    """Return the shortest schedule that is found, if none is shorter than least."""
    limit = None if len(block) <= MOST_EXACT else TRIES
    usual = earliest_places(machine, block, wanted)
    # What is executed first stands for an instruction that has begun in cycle 0.
    begun = {len(block): 0}
    for length in range(least, length_of(usual)):
        steps = steps_within(wanted, len(block), length)
        places = find_places(machine, block, steps, length, begun, limit)
        if places is not None:
            return tuple(places)
    return usual


def steps_within(wanted, begin, length):
    """Return steps for these needs from cycle 0, in which it begins, to a length."""
    steps = [(a, b, w) for a, b, w, _ in wanted]
    # What neither needs nor is needed may have any cycle.
    tied = sorted(set([at for a, b, w in steps for at in (a, b)]))
    firsts = [(begin, at, 0) for at in tied]
    lasts = [(at, begin, 1 - length) for at in tied]
    return steps + firsts + lasts
