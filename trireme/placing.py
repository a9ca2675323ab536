"""Places for instructions, which schedules and pipelines have in common.

A place is a cycle and a slot. Cycles count modulo a size: the interval of a
pipeline, or the length of a schedule, which never comes round.
"""


def slots_for(machine, instruction):
    """Return the slots that can do an instruction."""
    return [k for k, kinds in enumerate(machine[1]) if instruction[0] in kinds]


def earliest_places(machine, block, wanted):
    """Return a right schedule: each instruction, in their order, as early as it may.

    Where all before it have their results, nothing can be in its way: so its
    length is at most the sum of the latencies.
    """
    places = []
    for at, instruction in enumerate(block):
        waits = [places[a][0] + w for a, b, w, distance in wanted if b == at and distance == 0]
        cycle = max([0] + waits)
        slots = slots_for(machine, instruction)
        while not free_places(places, cycle, slots):
            cycle += 1
        places.append(free_places(places, cycle, slots)[0])
    return tuple(places)


def free_places(places, cycle, slots):
    """Return the places of a cycle, in these slots, that are not taken."""
    return [(cycle, slot) for slot in slots if (cycle, slot) not in places]


def spans_of(steps, size):
    """Return the least spans that steps (a, b, w) bring about, direct or not.

    The row a tells for each b how many cycles it is at least from a to b, None
    if nothing tells. No steps may go round with a sum above 0.
    """
    spans = [[None] * size for _ in range(size)]
    for a, b, w in steps:
        lengthen(spans[a], b, w)
    for via in range(size):
        for a in range(size):
            if a != via and spans[a][via] is not None:
                lengthen_by(spans[a], spans[a][via], spans[via])
    return spans


def lengthen(row, b, w):
    """Let the span to b be w cycles at least."""
    if row[b] is None or row[b] < w:
        row[b] = w


def lengthen_by(row, ahead, behind):
    """Let the spans of a row be those of another one that begins later."""
    for b, w in enumerate(behind):
        if w is not None:
            lengthen(row, b, ahead + w)


class Seats:
    """Which instruction has which place; others make room for it where they can."""

    def __init__(self, slots, cycles):
        # For each instruction, the slots and the cycles that it may have.
        self.slots = slots
        self.cycles = cycles
        # The instruction for each place that is taken.
        self.taken = {}

    def find_one(self, at, tried):
        """Find a place for an instruction that has none; tell whether there is one."""
        for cycle in self.cycles[at]:
            for slot in self.slots[at]:
                if self.gets(at, (cycle, slot), tried):
                    return True
        return False

    def gets(self, at, place, tried):
        """Give a place to an instruction if it is free or can be made free."""
        if place in tried:
            return False
        tried[place] = True
        if place in self.taken and not self.find_one(self.taken[place], tried):
            return False
        self.taken[place] = at
        return True

    def places(self):
        """Return the place of each instruction, in their order."""
        found = sorted([(at, place) for place, at in self.taken.items()])
        return [place for at, place in found]


def find_seats(slots, cycles):
    """Return places for instructions, all different, with slots and cycles that they may have.

    It is None if there are not enough.
    """
    seats = Seats(slots, cycles)
    for at in range(len(slots)):
        if not seats.find_one(at, {}):
            return None
    return seats.places()


class Search:
    """A search for cycles, with all between them that spans demand.

    Instructions are linked if there are spans between them both ways. Only
    linked ones are bound to cycles; the others may have any that is left.
    """

    def __init__(self, slots, spans, size, begun, limit):
        self.slots = slots
        self.spans = spans
        self.size = size
        # The cycles that are settled so far; these are not taken modulo size.
        self.settled = {at: begun[at] for at in begun}
        # How many more times cycles may be tried, None for any number.
        self.limit = limit
        self.links = [self.linked_with(at) for at in range(len(slots))]

    def linked_with(self, at):
        """Return what is linked with an instruction."""
        others = [other for other in range(len(self.spans)) if other != at]
        return [b for b in others if self.spans[at][b] is not None and self.spans[b][at] is not None]

    def run(self):
        """Return places for all instructions, None if none were found."""
        windows = [self.window(at) for at in range(len(self.slots))]
        places = find_seats(self.slots, [self.cycles_in(window) for window in windows])
        at = self.narrowest(windows)
        if places is None or at is None:
            return places
        low, high = windows[at]
        for cycle in range(low, high + 1):
            if not self.may_go_on():
                return None
            self.settled[at] = cycle
            places = self.run()
            if places is not None:
                return places
            del self.settled[at]
        return None

    def may_go_on(self):
        """Count one more try; tell whether it is within the limit."""
        if self.limit is None:
            return True
        self.limit -= 1
        return self.limit >= 0

    def window(self, at):
        """Return the first and the last cycle that the settled ones leave to one."""
        if at in self.settled:
            return self.settled[at], self.settled[at]
        near = [other for other in self.links[at] if other in self.settled]
        if near:
            low = max([self.settled[other] + self.spans[other][at] for other in near])
            high = min([self.settled[other] - self.spans[at][other] for other in near])
            return low, high
        # What is not linked with a settled one may be put off by the size.
        return 0, self.size - 1

    def cycles_in(self, window):
        """Return the cycles of a window, modulo the size."""
        low, high = window
        return [cycle % self.size for cycle in range(low, min(high, low + self.size - 1) + 1)]

    def narrowest(self, windows):
        """Return the linked instruction with the narrowest window that is not settled."""
        best = None
        width = 0
        for at, (low, high) in enumerate(windows):
            if self.links[at] and at not in self.settled and (best is None or high - low < width):
                best = at
                width = high - low
        return best


def find_places(machine, block, steps, size, begun, limit):
    """Return places in which steps (a, b, w) are kept among linked instructions.

    The cycles are told modulo the size. Steps may also name what is no
    instruction but has a settled cycle; begun tells these cycles, by indexes
    behind those of the block. None is returned if nothing was found within a
    limit of tries.
    """
    slots = [slots_for(machine, instruction) for instruction in block]
    spans = spans_of(steps, len(block) + len(begun))
    return Search(slots, spans, size, begun, limit).run()
