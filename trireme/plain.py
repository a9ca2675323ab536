"""The plain language: what programs do when they run (points 3 to 6)."""

LOWEST = -2147483648
HIGHEST = 2147483647
MODULUS = 4294967296
REGISTERS = 16
CELLS = 16
MOST_TURNS = 40


def wrap(number):
    """Take a number modulo 2 to the 32nd into the range of integers."""
    return (number - LOWEST) % MODULUS + LOWEST


def operate(op, a, b):
    """Return the result of an operation for the values of its operands."""
    if op == "add":
        return wrap(a + b)
    if op == "sub":
        return wrap(a - b)
    if op == "mul":
        return wrap(a * b)
    if op == "and":
        return wrap(a & b)
    # True would be no integer.
    return 1 if a < b else 0


def turns_of(number):
    """Return how often a loop is done that is told to be done number times."""
    return min(max(number, 0), MOST_TURNS)


class State:
    """The registers, the cells of the memory and the outputs of a run."""

    def __init__(self, inputs):
        # A dict, since a caller may go beyond the last register.
        self.registers = dict(enumerate(inputs))
        self.cells = [0] * CELLS
        self.outputs = []

    def worth(self, operand):
        """Return the value of an operand at this moment."""
        kind, number = operand
        if kind == "int":
            return number
        return self.registers.get(number, 0)

    def begin(self, instruction):
        """Let an instruction read its operands; return its result.

        A result is a place, its number and the integer that it gets. An out is
        put out at once and has None.
        """
        op = instruction[0]
        if op == "out":
            self.outputs.append(self.worth(instruction[1]))
            return None
        if op == "store":
            cell = self.worth(instruction[1]) % CELLS
            return "cell", cell, self.worth(instruction[2])
        if op == "load":
            cell = self.worth(instruction[2]) % CELLS
            return "reg", instruction[1], self.cells[cell]
        a = self.worth(instruction[2])
        b = self.worth(instruction[3])
        return "reg", instruction[1], operate(op, a, b)

    def finish(self, result):
        """Let a result arrive in its place."""
        place, number, content = result
        if place == "cell":
            self.cells[number] = content
        else:
            self.registers[number] = content

    def execute(self, instruction):
        """Do one instruction, whose result arrives at once."""
        result = self.begin(instruction)
        if result is not None:
            self.finish(result)

    def execute_loop(self, number, body):
        """Do a loop; its number of turns is settled before the first one."""
        for _ in range(turns_of(self.worth(number))):
            for instruction in body:
                self.execute(instruction)

    def told(self):
        """Return the outputs, the registers and the cells as tuples."""
        registers = [self.registers.get(k, 0) for k in range(REGISTERS)]
        return tuple(self.outputs), tuple(registers), tuple(self.cells)


def run(program, inputs):
    """Run a program and return its outputs, the registers and the cells."""
    state = State(inputs)
    for statement in program:
        if statement[0] == "loop":
            state.execute_loop(statement[1], statement[2])
        else:
            state.execute(statement)
    return state.told()
