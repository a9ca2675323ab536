"""The forms of values: integers, kinds, operands and instructions (points 2 and 4)."""

# The kinds of instructions, in ascending order.
KINDS = ("add", "and", "less", "load", "mul", "out", "store", "sub")

# What stands behind the kind of an instruction: a target must be a register,
# an operand may be a register or an integer.
FORMS = {
    "add": ("target", "operand", "operand"),
    "sub": ("target", "operand", "operand"),
    "mul": ("target", "operand", "operand"),
    "and": ("target", "operand", "operand"),
    "less": ("target", "operand", "operand"),
    "load": ("target", "operand"),
    "store": ("operand", "operand"),
    "out": ("operand",),
}


def is_number(value):
    """Tell whether a value is an integer."""
    # For Python, True and False are integers, too.
    return isinstance(value, int) and not isinstance(value, bool)


def is_tuple(value, size):
    """Tell whether a value is a tuple of so many items."""
    return isinstance(value, tuple) and len(value) == size


def is_word(value, word):
    """Tell whether a value is this very string."""
    return isinstance(value, str) and value == word


def is_kind(value):
    """Tell whether a value is a kind of instructions."""
    return isinstance(value, str) and value in KINDS


def are_kinds(value):
    """Tell whether a value is a tuple of kinds, ascending and without doubles."""
    if not isinstance(value, tuple) or not all([is_kind(kind) for kind in value]):
        return False
    return list(value) == sorted(set(value))


def is_operand(value):
    """Tell whether a value is an operand."""
    if not is_tuple(value, 2) or not is_number(value[1]):
        return False
    if is_word(value[0], "reg"):
        return value[1] >= 0
    return is_word(value[0], "int")


def is_part(value, part):
    """Tell whether a value may stand as this part of an instruction."""
    if part == "target":
        return is_number(value) and value >= 0
    return is_operand(value)


def is_instruction(value):
    """Tell whether a value is an instruction."""
    if not isinstance(value, tuple) or len(value) == 0 or not is_kind(value[0]):
        return False
    form = FORMS[value[0]]
    if len(value) != len(form) + 1:
        return False
    return all([is_part(field, part) for field, part in zip(value[1:], form)])


def is_block(value):
    """Tell whether a value is a tuple of instructions."""
    return isinstance(value, tuple) and all([is_instruction(item) for item in value])


def operands_of(instruction):
    """Return the operands of an instruction, in their order."""
    form = FORMS[instruction[0]]
    return [field for field, part in zip(instruction[1:], form) if part == "operand"]
