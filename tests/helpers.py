"""What several test files share: machines, values and random blocks."""

import functools
import itertools
from unittest.mock import ANY

KINDS = ("add", "and", "less", "load", "mul", "out", "store", "sub")

# Values of all kinds; ANY is equal to everything. None is a machine, a
# schedule of an instruction or a reason.
ODD_VALUES = [
    ANY,
    None, True, False, 0, 1, -1, 7, 10 ** 40, 1.0, float("nan"), "", "abc", "busy", b"", b"abc",
    (), (0,), (1, 2), ((),), ((), ()), (None,), (None, None), ("a", "b", "c"), [], [(0, 0)], [[]],
    {}, {0: 0}, set(), frozenset(), object(), int, len, ..., range(2), 1j,
    (((((((((),),),),),),),),), ("busy",), ("row", (0,)), ("ring", (0,), (1,)),
]


def deep(levels):
    """A tuple within a tuple, so many times."""
    value = ()
    for _ in range(levels):
        value = (value,)
    return value


def reg(k):
    return ("reg", k)


def num(n):
    return ("int", n)


def latencies(usual=1, **others):
    """The latencies of a machine: and_ stands for the kind and."""
    told = {kind.rstrip("_"): latency for kind, latency in others.items()}
    return tuple((kind, told.get(kind, usual)) for kind in KINDS)


def machine(slots=1, registers=16, usual=1, **others):
    """A machine: so many slots that do all, or the slots themselves."""
    if isinstance(slots, int):
        slots = (KINDS,) * slots
    return (registers, slots, latencies(usual, **others))


# One slot and six, slots without kinds, and latencies from 1 to 9.
ONE = machine()
SIX = machine(slots=6)
NINE = machine(usual=9)
SIX_OF_NINE = machine(slots=6, usual=9)
UNEQUAL = machine(slots=(KINDS, (), ("mul",), ()), mul=9, load=7, store=5)
TOLD_APART = machine(slots=tuple((kind,) for kind in KINDS[:5]) + (KINDS[5:],), usual=2)
MACHINES = (ONE, SIX, NINE, SIX_OF_NINE, UNEQUAL, TOLD_APART)


def bound(told, block):
    """What no length and no interval is greater than, by point 20."""
    latencies_told = dict(told[2])
    return sum(latencies_told[instruction[0]] for instruction in block) + len(block)


def changed(value, path, new):
    """A copy of nested tuples with another value at a place."""
    if not path:
        return new
    k = path[0]
    return value[:k] + (changed(value[k], path[1:], new),) + value[k + 1:]


def places(value, path=()):
    """The paths to all parts of nested tuples."""
    yield path
    if isinstance(value, tuple):
        for k, part in enumerate(value):
            yield from places(part, path + (k,))


def as_list(value, path):
    """A copy of nested tuples in which the tuple at a place is a list."""
    old = value
    for k in path:
        old = old[k]
    return changed(value, path, list(old))


def random_machine(source):
    """Any machine of few registers, with some empty slots and many latencies."""
    slots = [
        tuple(kind for kind in KINDS if source.random() < 0.6)
        for _ in range(source.randint(1, 6))
    ]
    missing = [kind for kind in KINDS if not any(kind in slot for slot in slots)]
    slots[0] = tuple(sorted({*slots[0], *missing}))
    most = source.choice((1, 2, 4, 9))
    return (
        source.randint(1, 5), tuple(slots),
        tuple((kind, source.randint(1, most)) for kind in KINDS),
    )


def random_operand(source, registers):
    if source.random() < 0.6:
        return reg(source.randrange(registers))
    return num(source.choice((-17, -2, -1, 0, 1, 2, 3, 16, 18, 2147483647)))


def random_instruction(source, registers, kinds=KINDS):
    op = source.choice(kinds)
    target = source.randrange(registers)
    a = random_operand(source, registers)
    b = random_operand(source, registers)
    fields = {"load": (target, a), "store": (a, b), "out": (a,)}
    return (op, *fields.get(op, (target, a, b)))


def random_block(source, registers, many):
    return tuple(random_instruction(source, registers) for _ in range(many))


def random_inputs(source, many):
    return tuple(source.randint(-20, 20) for _ in range(many))


def sparse_machine(source):
    """A machine with all registers, often of one slot and with very unequal latencies."""
    _, slots, _ = random_machine(source)
    slots = source.choice(((KINDS,), (KINDS,) * source.randint(2, 6), slots))
    usual = source.choice(((1,), (9,), (1, 9), (1, 2, 3), tuple(range(1, 10))))
    return (16, slots, tuple((kind, source.choice(usual)) for kind in KINDS))


def sparse_block(source, many):
    """A block of which only some instructions depend on each other."""
    kinds = source.choice((KINDS, ("add", "mul"), ("load", "mul", "store"), ("and", "less", "sub")))
    registers = source.choice((2, 4, 8, 16))
    return tuple(random_instruction(source, registers, kinds) for _ in range(many))


def renamed(block, names):
    """A block with other names of registers: names has the new one for each old one."""
    def operand(value):
        return reg(names[value[1]]) if value[0] == "reg" else value

    return tuple(
        tuple(
            field if k == 0 else operand(field) if isinstance(field, tuple) else names[field]
            for k, field in enumerate(instruction)
        )
        for instruction in block
    )


def better_machine(source, told):
    """A machine that has the slots of another one, in another order, and does more."""
    slots = [tuple(sorted({*slot, source.choice(KINDS)})) for slot in told[1]]
    if len(slots) < 6:
        slots.append((source.choice(KINDS),))
    source.shuffle(slots)
    return (told[0], tuple(slots), told[2])


@functools.lru_cache(maxsize=None)
def fits(slots, kinds):
    """Whether instructions of these kinds can be executed in one cycle."""
    return any(
        all(kind in slot for kind, slot in zip(kinds, chosen))
        for chosen in itertools.permutations(slots, len(kinds))
    )


def parts_of(value):
    """All parts of nested tuples that are no tuples."""
    if type(value) is not tuple:
        return [value]
    return [part for item in value for part in parts_of(item)]


def is_data(value):
    """Whether a value is nested tuples of strings, integers and None alone."""
    return type(value) is tuple and all(type(part) in (int, str, type(None)) for part in parts_of(value))
