"""Tests of needs: points 2, 13 and 14."""

import copy
import inspect
import random
import unittest

from helpers import KINDS, machine, num, random_block, random_machine, reg
from trireme.needs import loop_needs, needs

# The latencies all differ, so that each rule gives a number of its own.
TIMES = {"add": 2, "and": 3, "less": 4, "load": 5, "mul": 7, "out": 9, "store": 6, "sub": 1}
UNLIKE = machine(add=2, and_=3, less=4, load=5, mul=7, out=9, store=6, sub=1)

OPERATIONS = ("add", "and", "less", "mul", "sub")
WRITERS = OPERATIONS + ("load",)


def writing(op, k):
    """An instruction that writes a register and reads none."""
    return (op, k, num(1)) if op == "load" else (op, k, num(1), num(2))


def reading(k):
    """All forms of instructions that read a register; they write none but r9."""
    for op in OPERATIONS:
        yield (op, 9, reg(k), num(1))
        yield (op, 9, num(1), reg(k))
        yield (op, 9, reg(k), reg(k))
        yield (op, 9, reg(8), reg(k))
    yield ("load", 9, reg(k))
    yield ("store", reg(k), num(1))
    yield ("store", num(1), reg(k))
    yield ("store", reg(k), reg(k))
    yield ("out", reg(k))


class NeedsTest(unittest.TestCase):
    def check(self, first, second, w):
        with self.subTest(first=first, second=second):
            expected = () if w is None else ((0, 1, w, 0),)
            self.assertEqual(needs(UNLIKE, (first, second)), expected)

    def test_b_reads_what_a_writes(self):
        for op in WRITERS:
            for instruction in reading(3):
                if op == "load" and instruction[0] == "store":
                    continue
                self.check(writing(op, 3), instruction, TIMES[op])
                self.check(writing(op, 4), instruction, None)

    def test_b_writes_what_a_reads(self):
        for op in WRITERS:
            for instruction in reading(3):
                if op == "load" and instruction[0] == "store":
                    continue
                self.check(instruction, writing(op, 3), 1 - TIMES[op])
                self.check(instruction, writing(op, 4), None)

    def test_b_writes_what_a_writes(self):
        for op in WRITERS:
            for other in WRITERS:
                w = TIMES[op] - TIMES[other] + 1
                self.check(writing(op, 3), writing(other, 3), w)
                self.check(writing(op, 3), writing(other, 4), None)

    def test_no_need(self):
        for op in WRITERS:
            for other in WRITERS:
                self.check(writing(op, 3), writing(other, 0), None)
        self.check(("add", 3, reg(1), reg(2)), ("mul", 4, reg(1), reg(2)), None)
        self.check(("out", reg(1)), ("load", 2, reg(1)), None)
        self.check(("out", num(3)), ("add", 3, num(3), num(3)), None)
        self.check(("add", 3, num(3), num(3)), ("out", num(3)), None)

    def test_an_integer_is_no_register(self):
        for op in OPERATIONS:
            self.check(writing(op, 1), ("sub", 9, num(1), num(1)), None)
            self.check(("sub", 9, num(3), num(3)), writing(op, 3), None)
        self.check(writing("add", 1), ("store", num(1), num(1)), None)
        self.check(writing("add", 1), ("load", 2, num(1)), None)

    def test_memory(self):
        load, store = ("load", 3, num(5)), ("store", num(5), num(7))
        self.check(store, load, 6)
        self.check(load, store, -5)
        self.check(store, store, 1)
        self.check(load, ("load", 4, num(5)), None)

    def test_a_register_of_the_memorys_number_is_no_cell(self):
        self.check(("store", num(3), num(7)), ("add", 3, num(1), num(2)), None)
        self.check(("add", 3, num(1), num(2)), ("store", num(3), num(7)), None)
        self.check(("add", 0, num(1), num(2)), ("load", 3, num(0)), None)

    def test_addresses_that_are_integers(self):
        for at in (-17, -1, 0, 3, 15, 16, 31, 2147483647, -2147483648):
            for other in (-17, -1, 0, 3, 15, 16, 31, 2147483647, -2147483648):
                same = at % 16 == other % 16
                self.check(("store", num(at), num(1)), ("load", 3, num(other)), 6 if same else None)
                self.check(("load", 3, num(at)), ("store", num(other), num(1)), -5 if same else None)
                self.check(("store", num(at), num(1)), ("store", num(other), num(1)), 1 if same else None)
                self.check(("load", 3, num(at)), ("load", 4, num(other)), None)

    def test_addresses_that_are_registers(self):
        for at, other in [(reg(1), num(1)), (num(1), reg(1)), (reg(1), reg(2)), (reg(1), reg(1))]:
            self.check(("store", at, num(1)), ("load", 3, other), 6)
            self.check(("load", 3, at), ("store", other, num(1)), -5)
            self.check(("store", at, num(1)), ("store", other, num(1)), 1)
            self.check(("load", 3, at), ("load", 4, other), None)

    def test_what_is_stored_is_no_address(self):
        self.check(("store", num(1), num(3)), ("store", num(2), num(3)), None)
        self.check(("store", num(1), num(3)), ("store", num(1), num(4)), 1)
        self.check(("store", num(1), reg(3)), ("store", num(2), num(3)), None)

    def test_different_cells_may_need_each_other_by_registers(self):
        self.check(("load", 3, num(1)), ("store", num(2), reg(3)), 5)
        self.check(("store", num(2), reg(3)), ("load", 3, num(1)), -4)
        self.check(("load", 3, num(1)), ("load", 3, num(2)), 1)

    def test_outputs(self):
        for a in (num(1), reg(1)):
            for b in (num(1), num(2), reg(2), reg(1)):
                self.check(("out", a), ("out", b), 1)

    def test_the_greatest_of_several(self):
        # b reads and writes what a writes.
        self.check(("mul", 3, num(1), num(2)), ("sub", 3, reg(3), num(1)), 7)
        self.check(("sub", 3, num(1), num(2)), ("mul", 3, reg(3), num(1)), 1)
        # b writes what a reads and writes.
        self.check(("mul", 3, reg(3), num(2)), ("sub", 3, num(3), num(1)), 7)
        self.check(("sub", 3, reg(3), num(2)), ("mul", 3, num(3), num(1)), -5)
        # Each writes what the other one reads.
        self.check(("add", 3, reg(4), num(2)), ("mul", 4, reg(3), num(1)), 2)
        self.check(("add", 3, reg(3), reg(3)), ("add", 3, reg(3), reg(3)), 2)
        # By the memory and by a register.
        self.check(("load", 3, reg(1)), ("store", num(2), reg(3)), 5)
        self.check(("store", reg(3), num(1)), ("load", 3, num(1)), 6)
        self.check(("load", 3, num(1)), ("store", num(1), num(3)), -5)

    def test_latencies_1_and_9(self):
        told = machine(mul=9, add=1, load=9, store=1)
        rows = [
            (("mul", 1, num(1), num(1)), ("add", 2, reg(1), num(0)), 9),
            (("add", 1, num(1), num(1)), ("mul", 2, reg(1), num(0)), 1),
            (("mul", 1, reg(2), num(1)), ("add", 2, num(1), num(0)), 0),
            (("add", 1, reg(2), num(1)), ("mul", 2, num(1), num(0)), -8),
            (("mul", 1, num(1), num(1)), ("add", 1, num(1), num(0)), 9),
            (("add", 1, num(1), num(1)), ("mul", 1, num(1), num(0)), -7),
            (("store", num(1), num(1)), ("load", 1, num(1)), 1),
            (("load", 1, num(1)), ("store", num(1), num(1)), 0),
        ]
        for first, second, w in rows:
            self.assertEqual(needs(told, (first, second)), ((0, 1, w, 0),))

    def test_all_pairs_count(self):
        block = (
            ("add", 1, num(1), num(2)), ("mul", 1, num(3), num(4)), ("out", reg(1)),
            ("sub", 1, reg(1), num(1)), ("out", reg(1)),
        )
        self.assertEqual(needs(UNLIKE, block), (
            (0, 1, -4, 0), (0, 2, 2, 0), (0, 3, 2, 0), (0, 4, 2, 0),
            (1, 2, 7, 0), (1, 3, 7, 0), (1, 4, 7, 0),
            (2, 3, 0, 0), (2, 4, 1, 0), (3, 4, 1, 0),
        ))

    def test_short_blocks(self):
        self.assertEqual(needs(UNLIKE, ()), ())
        for instruction in list(reading(3)) + [writing(op, 3) for op in WRITERS]:
            self.assertEqual(needs(UNLIKE, (instruction,)), ())

    def test_needs_do_not_depend_on_slots_and_registers(self):
        block = (("add", 17, reg(20), num(1)), ("out", reg(17)))
        for told in (UNLIKE, (1, ((), KINDS), UNLIKE[2]), (16, (KINDS,) * 6, UNLIKE[2])):
            self.assertEqual(needs(told, block), ((0, 1, 2, 0),))

    def test_interface(self):
        self.assertEqual(needs.__module__, "trireme.needs")
        self.assertEqual(loop_needs.__module__, "trireme.needs")
        self.assertEqual(list(inspect.signature(needs).parameters), ["machine", "block"])
        self.assertEqual(list(inspect.signature(loop_needs).parameters), ["machine", "body"])


class LoopNeedsTest(unittest.TestCase):
    def check(self, body, *expected):
        with self.subTest(body=body):
            self.assertEqual(loop_needs(UNLIKE, body), expected)

    def test_empty_body(self):
        self.check(())

    def test_an_instruction_and_itself(self):
        for op in OPERATIONS:
            self.check((writing(op, 3),), (0, 0, 1, 1))
            self.check(((op, 3, reg(3), num(1)),), (0, 0, max(1, TIMES[op]), 1))
            self.check(((op, 3, num(1), reg(3)),), (0, 0, max(1, TIMES[op]), 1))
            self.check(((op, 3, reg(4), num(1)),), (0, 0, 1, 1))
        self.check((("load", 3, num(1)),), (0, 0, 1, 1))
        self.check((("load", 3, reg(3)),), (0, 0, 5, 1))
        for at in (num(1), reg(1)):
            self.check((("store", at, num(1)),), (0, 0, 1, 1))
            self.check((("out", at),), (0, 0, 1, 1))

    def test_a_turn_and_the_one_before(self):
        self.check(
            (("mul", 1, reg(2), num(3)), ("add", 2, reg(1), num(1))),
            (0, 0, 1, 1), (0, 1, 7, 0), (0, 1, 7, 1), (1, 0, 2, 1), (1, 1, 1, 1),
        )
        self.check(
            (("add", 2, reg(1), num(1)), ("sub", 3, num(2), num(2)), ("mul", 1, num(2), num(3))),
            (0, 0, 1, 1), (0, 2, -6, 0), (0, 2, -6, 1), (1, 1, 1, 1), (2, 0, 7, 1), (2, 2, 1, 1),
        )

    def test_memory(self):
        self.check(
            (("load", 1, num(5)), ("store", num(21), num(0)), ("store", num(6), num(0))),
            (0, 0, 1, 1), (0, 1, -5, 0), (0, 1, -5, 1), (1, 0, 6, 1), (1, 1, 1, 1), (2, 2, 1, 1),
        )
        self.check(
            (("load", 1, num(5)), ("store", reg(2), num(0))),
            (0, 0, 1, 1), (0, 1, -5, 0), (0, 1, -5, 1), (1, 0, 6, 1), (1, 1, 1, 1),
        )

    def test_outputs(self):
        self.check(
            (("out", num(1)), ("out", num(2))),
            (0, 0, 1, 1), (0, 1, 1, 0), (0, 1, 1, 1), (1, 0, 1, 1), (1, 1, 1, 1),
        )


class AllNeedsTest(unittest.TestCase):
    def wait(self, times, first, second):
        """Points 13's rules again, each pair of instructions looked at by hand."""
        a, b = times[first[0]], times[second[0]]
        told = []
        for k in range(20):
            told += self.rules(a, b, self.does(first, k), self.does(second, k))
        memory = {"load": "r", "store": "w"}
        if not self.apart(first, second):
            told += self.rules(a, b, memory.get(first[0], ""), memory.get(second[0], ""))
        if first[0] == second[0] == "out":
            told.append(1)
        return max(told) if told else None

    def does(self, instruction, k):
        target = instruction[1] == k and instruction[0] not in ("store", "out")
        return "w" * target + "r" * (("reg", k) in instruction)

    def rules(self, a, b, first, second):
        return (
            [a] * ("w" in first and "r" in second)
            + [1 - b] * ("r" in first and "w" in second)
            + [a - b + 1] * ("w" in first and "w" in second)
        )

    def apart(self, first, second):
        cells = []
        for instruction in (first, second):
            at = {"load": 2, "store": 1}.get(instruction[0])
            if at is None or instruction[at][0] == "reg":
                return False
            cells.append(instruction[at][1] % 16)
        return cells[0] != cells[1]

    def test_random_blocks(self):
        source = random.Random(13)
        for _ in range(300):
            told = random_machine(source)
            block = random_block(source, source.randint(1, 6), source.randrange(13))
            times = dict(told[2])
            within, all_of_them = [], []
            for a, first in enumerate(block):
                for b, second in enumerate(block):
                    w = self.wait(times, first, second)
                    if w is not None:
                        within += [(a, b, w, 0)] * (a < b)
                        all_of_them += [(a, b, w, 0)] * (a < b) + [(a, b, w, 1)]
            self.assertEqual(needs(told, block), tuple(sorted(within)))
            self.assertEqual(loop_needs(told, block), tuple(sorted(all_of_them)))

    def test_kinds_of_what_is_returned(self):
        block = (("less", 1, reg(1), num(2)), ("out", reg(1)), ("out", num(2)))
        for told in (needs(UNLIKE, block), loop_needs(UNLIKE, block)):
            self.assertIs(type(told), tuple)
            self.assertGreater(len(told), 1)
            for row in told:
                self.assertIs(type(row), tuple)
                self.assertEqual([type(part) for part in row], [int] * 4)

    def test_arguments_stay_and_answers_repeat(self):
        source = random.Random(2)
        block = random_block(source, 3, 8)
        told = machine(slots=2, mul=4)
        before = copy.deepcopy((told, block))
        first = needs(told, block), loop_needs(told, block)
        needs(UNLIKE, block)
        loop_needs(UNLIKE, block[1:])
        self.assertEqual((needs(told, block), loop_needs(told, block)), first)
        self.assertEqual((told, block), before)


if __name__ == "__main__":
    unittest.main()
