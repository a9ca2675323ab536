"""Judges of schedules, pipelines and reasons (points 15, 16 and 18).

They take any values: what has not the form of a machine, a block, a schedule
or a reason is not right.
"""

from trireme.bounds import busy_number, divide_up
from trireme.forms import are_kinds, is_block, is_number, is_tuple, is_word
from trireme.machines import has_machine_form
from trireme.needs import loop_needs, needs


def is_schedule(machine, block, schedule):
    """Tell whether a schedule of a block is right for a machine."""
    if not are_known(machine, block) or not are_places(machine, block, schedule):
        return False
    return not has_doubles(schedule) and are_met(needs(machine, block), 0, schedule)


def is_pipeline(machine, body, interval, schedule):
    """Tell whether a pipeline of a loop's body is right for a machine."""
    if not are_known(machine, body) or not are_places(machine, body, schedule):
        return False
    if not is_number(interval) or interval < 1:
        return False
    places = [(cycle % interval, slot) for cycle, slot in schedule]
    return not has_doubles(places) and are_met(loop_needs(machine, body), interval, schedule)


def is_reason(machine, block, reason):
    """Tell whether a value is a true reason for the length of schedules."""
    if not are_known(machine, block):
        return False
    return is_busy(machine, block, reason) or is_row(machine, block, reason)


def is_loop_reason(machine, body, reason):
    """Tell whether a value is a true reason for the interval of pipelines."""
    if not are_known(machine, body):
        return False
    return is_busy(machine, body, reason) or is_ring(machine, body, reason)


def are_known(machine, block):
    """Tell whether there is something to judge: a machine and a block."""
    # The limits of a machine's numbers do not matter here: callers may go
    # somewhat beyond them.
    return has_machine_form(machine) and is_block(block)


def are_places(machine, block, schedule):
    """Tell whether a value has a place for each instruction of a block."""
    if not is_tuple(schedule, len(block)):
        return False
    slots = machine[1]
    return all([is_place(slots, place, item[0]) for place, item in zip(schedule, block)])


def is_place(slots, place, kind):
    """Tell whether a value is a cycle and a slot that can do this kind."""
    if not is_tuple(place, 2) or not is_number(place[0]) or not is_number(place[1]):
        return False
    cycle, slot = place
    return cycle >= 0 and 0 <= slot < len(slots) and kind in slots[slot]


def has_doubles(entries):
    """Tell whether entries stand more than once."""
    return len(set(entries)) < len(entries)


def are_met(wanted, interval, schedule):
    """Tell whether a schedule, begun again each interval, meets these needs."""
    for a, b, w, distance in wanted:
        if schedule[b][0] + distance * interval < schedule[a][0] + w:
            return False
    return True


def is_told(reason, word, size):
    """Tell whether a value is a tuple of this size, of a word .. and a number."""
    return is_tuple(reason, size) and is_word(reason[0], word) and is_number(reason[size - 1])


def is_busy(machine, block, reason):
    """Tell whether a value is a true reason that says which slots are busy."""
    if not is_told(reason, "busy", 3):
        return False
    _, kinds, number = reason
    if not are_kinds(kinds) or len(kinds) == 0:
        return False
    return number == busy_number(machine, block, kinds)


def is_row(machine, block, reason):
    """Tell whether a value is a true reason that says what follows on what."""
    if not is_told(reason, "row", 3):
        return False
    _, indexes, number = reason
    if not are_indexes(indexes, len(block)):
        return False
    steps = [(a, b, 0) for a, b in zip(indexes, indexes[1:])]
    total = total_wait(needs(machine, block), steps)
    return total is not None and number == total + 1


def is_ring(machine, body, reason):
    """Tell whether a value is a true reason that says what goes round in turns."""
    if not is_told(reason, "ring", 4):
        return False
    _, indexes, distances, number = reason
    if not are_indexes(indexes, len(body)) or has_doubles(indexes):
        return False
    if not are_distances(distances, len(indexes)):
        return False
    steps = list(zip(indexes, indexes[1:] + indexes[:1], distances))
    total = total_wait(loop_needs(machine, body), steps)
    return total is not None and number == divide_up(total, sum(distances))


def are_indexes(indexes, size):
    """Tell whether a value is a tuple of one or more indexes below a size."""
    if not isinstance(indexes, tuple) or len(indexes) == 0:
        return False
    return all([is_number(index) and 0 <= index < size for index in indexes])


def are_distances(distances, size):
    """Tell whether a value is so many integers whose sum is at least 1."""
    if not is_tuple(distances, size) or not all([is_number(part) for part in distances]):
        return False
    return sum(distances) >= 1


def total_wait(wanted, steps):
    """Return the sum of the ws of steps (a, b, distance), None if one is no need."""
    table = {(a, b, distance): w for a, b, w, distance in wanted}
    total = 0
    for step in steps:
        if step not in table:
            return None
        total += table[step]
    return total
