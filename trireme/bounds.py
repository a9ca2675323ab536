"""Reasons why no schedule is shorter and no interval is smaller (point 18).

Each function that is called best_.. returns the reason with the greatest
number that there is of its sort, and None if there is none.
"""


def divide_up(number, by):
    """Return a quotient, rounded up."""
    return -(-number // by)


def busy_number(machine, block, kinds):
    """Return how many cycles the slots for these kinds are busy at least."""
    tasks = [instruction for instruction in block if instruction[0] in kinds]
    able = [slot for slot in machine[1] if any([kind in slot for kind in kinds])]
    return divide_up(len(tasks), len(able))


def best_reason(reasons):
    """Return the first reason with the greatest number, None if all are None."""
    return max([reason for reason in reasons if reason is not None], key=number_of, default=None)


def number_of(reason):
    """Return the number of a reason."""
    return reason[-1]


def reason_for(reason, number):
    """Return a reason if it has this number, otherwise None."""
    return reason if number_of(reason) == number else None


def best_busy(machine, block):
    """Return the best reason that says which slots are busy."""
    # Kinds that the block does not have would only add slots.
    choices = [()]
    for kind in sorted(set([instruction[0] for instruction in block])):
        choices = choices + [kinds + (kind,) for kinds in choices]
    return best_reason([("busy", kinds, busy_number(machine, block, kinds)) for kinds in choices[1:]])


def best_row(wanted, size):
    """Return the best reason that says what follows on what, by these needs."""
    if size == 0:
        return None
    totals = [0] * size
    before = [None] * size
    # Needs ascend, and each instruction needs only earlier ones: the total of
    # a is final when the first need on it comes.
    for a, b, w, _ in wanted:
        if totals[a] + w > totals[b]:
            totals[b] = totals[a] + w
            before[b] = a
    row = [totals.index(max(totals))]
    while before[row[-1]] is not None:
        row.append(before[row[-1]])
    return "row", tuple(reversed(row)), max(totals) + 1


def best_ring(wanted, size):
    """Return the best reason that says what goes round in turns, if it is above 0."""
    reason = None
    ring = ring_above(wanted, size, 0)
    while ring:
        reason = reason_of(ring)
        ring = ring_above(wanted, size, number_of(reason))
    return reason


def reason_of(ring):
    """Return the reason that a ring of needs gives."""
    indexes = tuple([a for a, b, w, distance in ring])
    distances = tuple([distance for a, b, w, distance in ring])
    total = sum([w for a, b, w, distance in ring])
    return "ring", indexes, distances, divide_up(total, sum(distances))


def ring_above(wanted, size, interval):
    """Return needs that go round and that this interval is too small for.

    The list is empty if there are none. Cycles are put off, need by need, as
    long as one is not met; without such a ring that ends after fewer rounds
    than there are instructions.
    """
    cycles = [0] * size
    # The need for which an instruction was put off the last time.
    causes = [None] * size
    late = None
    for _ in range(size):
        late = put_off(wanted, interval, cycles, causes)
        if late is None:
            return []
    return ring_of(causes, late) if size > 0 else []


def put_off(wanted, interval, cycles, causes):
    """Put off what comes too early; return the last such instruction or None."""
    late = None
    for need in wanted:
        a, b, w, distance = need
        least = cycles[a] + w - distance * interval
        if least > cycles[b]:
            cycles[b] = least
            causes[b] = need
            late = b
    return late


def ring_of(causes, late):
    """Return the ring of causes that put off an instruction time and again."""
    # So many steps back surely lead into the ring.
    at = late
    for _ in causes:
        at = causes[at][0]
    ring = [causes[at]]
    while ring[-1][0] != at:
        ring.append(causes[ring[-1][0]])
    return list(reversed(ring))
