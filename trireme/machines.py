"""Machines, and what they do when they run code (points 9 to 12)."""

from trireme.forms import KINDS, are_kinds, is_number, is_tuple, is_word
from trireme.plain import REGISTERS, State, turns_of

MOST_SLOTS = 6
MOST_LATENCY = 9


def is_machine(machine):
    """Tell whether a value is a machine."""
    return has_machine_form(machine) and is_within_limits(machine)


def has_machine_form(machine):
    """Tell whether a value is a machine, but for the limits of its numbers."""
    if not is_tuple(machine, 3):
        return False
    registers, slots, latencies = machine
    return is_number(registers) and are_slots(slots) and are_latencies(latencies)


def are_slots(slots):
    """Tell whether a value is the slots of a machine, however many."""
    if not isinstance(slots, tuple) or not all([are_kinds(slot) for slot in slots]):
        return False
    return all([any([kind in slot for slot in slots]) for kind in KINDS])


def are_latencies(latencies):
    """Tell whether a value is the latencies of a machine, however great."""
    if not is_tuple(latencies, len(KINDS)):
        return False
    return all([is_latency(pair, kind) for pair, kind in zip(latencies, KINDS)])


def is_latency(pair, kind):
    """Tell whether a value is a pair of this kind and an integer."""
    return is_tuple(pair, 2) and is_word(pair[0], kind) and is_number(pair[1])


def is_within_limits(machine):
    """Tell whether the numbers of a machine are within their limits."""
    registers, slots, latencies = machine
    if registers < 1 or registers > REGISTERS or len(slots) > MOST_SLOTS:
        return False
    return all([1 <= latency <= MOST_LATENCY for kind, latency in latencies])


class Runner:
    """A machine that runs code: its state, its cycle, and results on their way."""

    def __init__(self, latencies, inputs):
        self.latencies = dict(latencies)
        self.state = State(inputs)
        # The number of cycles that have passed, so also the present one.
        self.cycle = 0
        # Pairs of a cycle and the result that is due in it. They stand in the
        # order of execution, in which results of one cycle must arrive.
        self.pending = []

    def arrive(self):
        """Let all results arrive that are due by now."""
        for due, result in self.pending:
            if due <= self.cycle:
                self.state.finish(result)
        self.pending = [row for row in self.pending if row[0] > self.cycle]

    def execute(self, word):
        """Execute a word; the cycle is over then."""
        self.arrive()
        for instruction in word:
            if instruction is not None:
                self.start(instruction)
        self.cycle += 1

    def start(self, instruction):
        """Execute an instruction; its result, if it has one, becomes due."""
        result = self.state.begin(instruction)
        if result is not None:
            due = self.cycle + self.latencies[instruction[0]]
            self.pending.append((due, result))

    def wait(self):
        """Go on without instructions until all results have arrived."""
        latest = max([due for due, result in self.pending], default=0)
        while self.cycle < latest:
            self.execute(())
        # What is due in the next cycle arrives although none may follow.
        self.arrive()

    def run_words(self, words):
        """Execute words, one per cycle."""
        for word in words:
            self.execute(word)

    def run_kernel(self, number, words, stages):
        """Execute the words of a loop, whose turns overlap by their stages."""
        self.wait()
        turns = turns_of(self.state.worth(number))
        if turns > 0:
            for begun in range(turns + greatest_stage(stages)):
                for word, row in zip(words, stages):
                    self.execute(part_of(word, row, begun, turns))
        self.wait()


def greatest_stage(stages):
    """Return the greatest stage of a kernel, 0 if it has no instruction."""
    return max([stage for row in stages for stage in row if stage is not None], default=0)


def part_of(word, row, begun, turns):
    """Return the instructions of a word that are done by then.

    An instruction of the stage s is done in the intervals from s on, as many
    as there are turns; begun is the number of intervals that are over.
    """
    part = []
    for instruction, stage in zip(word, row):
        if instruction is not None and 0 <= begun - stage < turns:
            part.append(instruction)
    return part


def run_code(machine, code, inputs):
    """Run code; return its outputs, the registers, the cells and the cycles."""
    many, _, latencies = machine
    runner = Runner(latencies, inputs)
    for segment in code:
        if segment[0] == "kernel":
            runner.run_kernel(segment[1], segment[2], segment[3])
        else:
            runner.run_words(segment[1])
    runner.wait()
    outputs, registers, cells = runner.state.told()
    # The registers that the machine does not have are those of the inputs.
    begun = State(inputs).told()[1]
    return outputs, registers[:many] + begun[many:], cells, runner.cycle
