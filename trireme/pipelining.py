"""Pipelines of loops' bodies (point 20)."""

from trireme.bounds import best_busy, best_reason, best_ring, divide_up, number_of, reason_for
from trireme.needs import loop_needs
from trireme.placing import earliest_places, find_places

# Up to so many instructions all pipelines are tried.
MOST_EXACT = 4
# How many tries there are for each interval where there are more.
TRIES = 500


def pipeline(machine, body):
    """Return an interval, a schedule right with it, and a reason with that number or None."""
    wanted = loop_needs(machine, body)
    reason = best_reason([best_busy(machine, body), best_ring(wanted, len(body))])
    if reason is None:
        # The document's bound is 0 for an empty body, but no interval is.
        return 1, (), None
    interval, places = tightest(machine, body, wanted, number_of(reason))
    return interval, places, reason_for(reason, interval)


def tightest(machine, body, wanted, least):
    """Return the pipeline with the smallest interval that is found, from least on."""
    limit = None if len(body) <= MOST_EXACT else TRIES
    usual = earliest_places(machine, body, wanted)
    most = interval_of(wanted, usual)
    for interval in range(least, most):
        steps = [(a, b, w - distance * interval) for a, b, w, distance in wanted]
        places = find_places(machine, body, steps, interval, {}, limit)
        if places is not None:
            return interval, unfold(wanted, interval, places)
    return most, usual


def interval_of(wanted, places):
    """Return the interval with which a schedule is right, and no turns overlap in it."""
    waits = [places[a][0] + w - places[b][0] for a, b, w, distance in wanted if distance == 1]
    return max(waits + [cycle + 1 for cycle, slot in places])


def unfold(wanted, interval, places):
    """Return a schedule with these places, whose cycles are told modulo the interval.

    Each instruction gets the earliest cycle that the needs allow.
    """
    cycles = [cycle for cycle, slot in places]
    late = True
    while late:
        late = False
        for a, b, w, distance in wanted:
            missing = cycles[a] + w - distance * interval - cycles[b]
            if missing > 0:
                # Only whole intervals keep the place.
                cycles[b] += divide_up(missing, interval) * interval
                late = True
    first = min(cycles)
    return tuple([(cycle - first, slot) for cycle, (_, slot) in zip(cycles, places)])
