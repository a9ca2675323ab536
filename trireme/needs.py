"""Which instructions need which others, and by how many cycles (points 13 and 14)."""

from trireme.forms import operands_of
from trireme.plain import CELLS

# Stands beside the numbers of registers for all cells of the memory together.
MEMORY = "memory"


def needs(machine, block):
    """Return the needs of a block, which are all of distance 0."""
    return tuple([(a, b, w, 0) for a, b, w in waits(machine, block) if a < b])


def loop_needs(machine, body):
    """Return the needs of a loop's body, within a turn and on the one before."""
    found = []
    for a, b, w in waits(machine, body):
        if a < b:
            found.append((a, b, w, 0))
        found.append((a, b, w, 1))
    return tuple(found)


def waits(machine, block):
    """Return triples (a, b, w) in ascending order.

    There is one for each two instructions, also for one and itself, of which b
    would need a with w if b came behind a.
    """
    latencies = dict(machine[2])
    found = []
    for a, first in enumerate(block):
        for b, second in enumerate(block):
            w = wait_between(latencies, first, second)
            if w is not None:
                found.append((a, b, w))
    return found


def wait_between(latencies, first, second):
    """Return by how many cycles the second needs the first, None if it does not."""
    before = latencies[first[0]]
    behind = latencies[second[0]]
    memory = not are_apart(first, second)
    found = []
    if overlap(writes(first, memory), reads(second, memory)):
        found.append(before)
    if overlap(reads(first, memory), writes(second, memory)):
        found.append(1 - behind)
    if overlap(writes(first, memory), writes(second, memory)):
        found.append(before - behind + 1)
    if first[0] == "out" and second[0] == "out":
        found.append(1)
    return max(found, default=None)


def overlap(these, those):
    """Tell whether two lists share an entry."""
    return any([place in those for place in these])


def reads(instruction, memory):
    """Return the registers that an instruction reads, and the memory if told to."""
    places = [number for kind, number in operands_of(instruction) if kind == "reg"]
    if memory and instruction[0] == "load":
        places.append(MEMORY)
    return places


def writes(instruction, memory):
    """Return the register that an instruction writes, or the memory if told to."""
    if instruction[0] == "out":
        return []
    if instruction[0] == "store":
        return [MEMORY] if memory else []
    return [instruction[1]]


def are_apart(first, second):
    """Tell whether two instructions surely access different cells."""
    one = fixed_cell(first)
    other = fixed_cell(second)
    return one is not None and other is not None and one != other


def fixed_cell(instruction):
    """Return the cell that an instruction accesses, None if it is not fixed."""
    if instruction[0] != "load" and instruction[0] != "store":
        return None
    kind, number = operands_of(instruction)[0]
    return number % CELLS if kind == "int" else None
