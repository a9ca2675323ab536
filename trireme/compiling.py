"""Code of programs: their blocks, plans and cycles (points 19, 21 and 22)."""

from trireme.errors import LimitError
from trireme.forms import FORMS
from trireme.pipelining import pipeline
from trireme.plain import turns_of
from trireme.scheduling import length_of, schedule


def blocks(program):
    """Return the blocks and the loops of a program, in their order."""
    parts = []
    row = []
    for statement in program:
        if statement[0] == "loop":
            parts.extend(block_of(row) + [statement])
            row = []
        else:
            row.append(statement)
    return tuple(parts + block_of(row))


def block_of(row):
    """Return the block of a row of instructions in a list, which is empty if the row is."""
    return [("block", tuple(row))] if row else []


def assemble(machine, program, plans):
    """Return the code of a program by plans for its blocks and loops."""
    many = len(machine[1])
    return tuple([segment(many, part, plan) for part, plan in zip(blocks(program), plans)])


def segment(many, part, plan):
    """Return the segment of a block or a loop by its plan, for so many slots."""
    if part[0] == "block":
        return "words", fill(length_of(plan), many, plan, part[1])
    _, n, body = part
    interval, places = plan
    folded = [(cycle % interval, slot) for cycle, slot in places]
    stages = [cycle // interval for cycle, slot in places]
    return "kernel", n, fill(interval, many, folded, body), fill(interval, many, folded, stages)


def fill(length, many, places, entries):
    """Return a number of words of so many slots, with entries in their places."""
    words = [[None] * many for _ in range(length)]
    for (cycle, slot), entry in zip(places, entries):
        words[cycle][slot] = entry
    return tuple([tuple(word) for word in words])


def compile_program(machine, program):
    """Return the code of a program by the plans that schedule and pipeline make."""
    if any([number >= machine[0] for number in registers_of(program)]):
        raise LimitError("the program uses a register that the machine does not have")
    return assemble(machine, program, [plan_of(machine, part) for part in blocks(program)])


def plan_of(machine, part):
    """Return a plan for a block or a loop."""
    if part[0] == "block":
        return schedule(machine, part[1])[0]
    interval, places, _ = pipeline(machine, part[2])
    return interval, places


def registers_of(program):
    """Return the numbers of all registers that a program uses."""
    found = []
    for statement in program:
        if statement[0] == "loop":
            found.extend(registers_in(("operand",), (statement[1],)) + registers_of(statement[2]))
        else:
            found.extend(registers_in(FORMS[statement[0]], statement[1:]))
    return found


def registers_in(form, fields):
    """Return the numbers of the registers in the fields of an instruction of a form."""
    operands = [("reg", field) if part == "target" else field for part, field in zip(form, fields)]
    return [number for kind, number in operands if kind == "reg"]


def cycles(machine, program, plans, turns):
    """Return how many cycles the code of plans takes, with so many turns of each loop."""
    latencies = dict(machine[2])
    ahead = list(turns)
    passed = 0
    # The cycle in which the latest result is due.
    due = 0
    for part, plan in zip(blocks(program), plans):
        if part[0] == "block":
            due = max(due, passed + last_due(latencies, part[1], plan))
            passed += length_of(plan)
        else:
            passed = max(passed, due)
            passed += kernel_cycles(latencies, part[2], plan, turns_of(ahead.pop(0)))
            due = passed
    return max(passed, due)


def kernel_cycles(latencies, body, plan, many):
    """Return how many cycles a loop of so many turns takes, until all its results have arrived."""
    if many == 0:
        return 0
    interval, places = plan
    most = max([cycle // interval for cycle, slot in places], default=0)
    # Each turn's results are due an interval behind those of the turn before.
    due = (many - 1) * interval + last_due(latencies, body, places)
    return max((many + most) * interval, due)


def last_due(latencies, block, places):
    """Return the cycle in which the latest result of a block is due."""
    dues = [
        cycle + latencies[instruction[0]]
        for instruction, (cycle, slot) in zip(block, places) if instruction[0] != "out"
    ]
    return max(dues, default=0)
