"""What several test files share: machines, values and random blocks."""

from unittest.mock import ANY

KINDS = ("add", "and", "less", "load", "mul", "out", "store", "sub")

# Values of all kinds; ANY is equal to everything. None is a machine, a
# schedule of an instruction or a reason.
ODD_VALUES = [
    ANY,
    None, True, False, 0, 1, -1, 7, 10 ** 40, 1.0, float("nan"), "", "abc", "busy", b"", b"abc",
    (), (0,), (1, 2), ((),), ((), ()), (None,), (None, None), ("a", "b", "c"), [], [(0, 0)], [[]],
    {}, {0: 0}, set(), frozenset(), object(), int, len, ..., range(2), 1j,
    (((((((((),),),),),),),),), ("busy",), ("row", (0,)), ("ring", (0,), (1,)),
]


def deep(levels):
    """A tuple within a tuple, so many times."""
    value = ()
    for _ in range(levels):
        value = (value,)
    return value


def reg(k):
    return ("reg", k)


def num(n):
    return ("int", n)


def latencies(usual=1, **others):
    """The latencies of a machine: and_ stands for the kind and."""
    told = {kind.rstrip("_"): latency for kind, latency in others.items()}
    return tuple((kind, told.get(kind, usual)) for kind in KINDS)


def machine(slots=1, registers=16, usual=1, **others):
    """A machine: so many slots that do all, or the slots themselves."""
    if isinstance(slots, int):
        slots = (KINDS,) * slots
    return (registers, slots, latencies(usual, **others))


def changed(value, path, new):
    """A copy of nested tuples with another value at a place."""
    if not path:
        return new
    k = path[0]
    return value[:k] + (changed(value[k], path[1:], new),) + value[k + 1:]


def places(value, path=()):
    """The paths to all parts of nested tuples."""
    yield path
    if isinstance(value, tuple):
        for k, part in enumerate(value):
            yield from places(part, path + (k,))


def as_list(value, path):
    """A copy of nested tuples in which the tuple at a place is a list."""
    old = value
    for k in path:
        old = old[k]
    return changed(value, path, list(old))


def random_machine(source):
    """Any machine of few registers, with some empty slots and many latencies."""
    slots = [
        tuple(kind for kind in KINDS if source.random() < 0.6)
        for _ in range(source.randint(1, 6))
    ]
    missing = [kind for kind in KINDS if not any(kind in slot for slot in slots)]
    slots[0] = tuple(sorted({*slots[0], *missing}))
    most = source.choice((1, 2, 4, 9))
    return (
        source.randint(1, 5), tuple(slots),
        tuple((kind, source.randint(1, most)) for kind in KINDS),
    )


def random_operand(source, registers):
    if source.random() < 0.6:
        return reg(source.randrange(registers))
    return num(source.choice((-17, -2, -1, 0, 1, 2, 3, 16, 18, 2147483647)))


def random_instruction(source, registers, kinds=KINDS):
    op = source.choice(kinds)
    target = source.randrange(registers)
    a = random_operand(source, registers)
    b = random_operand(source, registers)
    fields = {"load": (target, a), "store": (a, b), "out": (a,)}
    return (op, *fields.get(op, (target, a, b)))


def random_block(source, registers, many):
    return tuple(random_instruction(source, registers) for _ in range(many))


def random_inputs(source, many):
    return tuple(source.randint(-20, 20) for _ in range(many))
