"""Tests of the judges: points 2, 13 to 16 and 18."""

import copy
import inspect
import itertools
import math
import random
import unittest

from helpers import (
    KINDS, ODD_VALUES, as_list, changed, deep, machine, num, places, random_block, random_inputs,
    random_machine, reg,
)
from maker import Maker
from trireme import judge
from trireme.judge import is_loop_reason, is_pipeline, is_reason, is_schedule
from trireme.machines import run_code
from trireme.needs import loop_needs, needs
from trireme.plain import run

ONE = machine(mul=4, load=3)
TWO = machine(slots=(("add", "less", "load", "out", "store"), ("add", "and", "mul", "sub")), mul=4)
SIX = machine(slots=((), KINDS, (), KINDS, (), KINDS))

MUL = ("mul", 1, reg(2), reg(3))
ADD = ("add", 4, reg(1), num(1))
FREE = ("add", 5, num(1), num(2))
SUB = ("sub", 6, num(1), num(2))
OUT = ("out", reg(4))

# A value in which an integer is also told as True, as a float and as a string.
DISGUISES = (bool, float, str, lambda n: (n,), lambda n: [n], lambda n: None)


class JudgeTest(unittest.TestCase):
    def schedule(self, right, told, block, schedule):
        with self.subTest(block=block, schedule=schedule):
            self.assertIs(is_schedule(told, block, schedule), right)

    def pipeline(self, right, told, body, interval, schedule):
        with self.subTest(body=body, interval=interval, schedule=schedule):
            self.assertIs(is_pipeline(told, body, interval, schedule), right)

    def reason(self, true, told, block, reason):
        with self.subTest(block=block, reason=reason):
            self.assertIs(is_reason(told, block, reason), true)

    def loop_reason(self, true, told, body, reason):
        with self.subTest(body=body, reason=reason):
            self.assertIs(is_loop_reason(told, body, reason), true)


class ScheduleTest(JudgeTest):
    def test_right_schedules(self):
        self.schedule(True, ONE, (MUL, ADD, OUT), ((0, 0), (4, 0), (5, 0)))
        self.schedule(True, ONE, (MUL, ADD, OUT), ((3, 0), (9, 0), (200, 0)))
        self.schedule(True, TWO, (MUL, ADD, FREE), ((0, 1), (4, 0), (0, 0)))
        self.schedule(True, TWO, (MUL, ADD, FREE), ((0, 1), (4, 1), (4, 0)))
        self.schedule(True, SIX, (FREE, SUB, MUL), ((0, 5), (0, 3), (0, 1)))

    def test_empty_block(self):
        self.schedule(True, ONE, (), ())
        self.schedule(False, ONE, (), ((0, 0),))
        self.schedule(False, ONE, (), None)
        self.schedule(False, ONE, (), [])
        self.schedule(False, ONE, (), "")

    def test_one_entry_for_each_instruction(self):
        self.schedule(False, ONE, (FREE,), ())
        self.schedule(False, ONE, (FREE,), ((0, 0), (1, 0)))
        self.schedule(False, ONE, (FREE, SUB), ((0, 0),))
        self.schedule(False, ONE, (FREE, SUB), ((0, 0), (1, 0), (2, 0)))

    def test_cycles_are_not_negative(self):
        self.schedule(True, ONE, (FREE,), ((0, 0),))
        self.schedule(False, ONE, (FREE,), ((-1, 0),))
        self.schedule(False, ONE, (FREE, SUB), ((5, 0), (-1, 0)))
        self.schedule(False, ONE, (FREE, SUB), ((-5, 0), (1, 0)))

    def test_slots_that_are_there(self):
        for slot in range(-7, 8):
            self.schedule(slot in (1, 3, 5), SIX, (FREE,), ((0, slot),))
            self.schedule(slot == 0, ONE, (FREE,), ((0, slot),))
        self.schedule(False, ONE, (FREE,), ((0, 10 ** 30),))

    def test_slots_do_their_kinds_alone(self):
        blocks = {
            "add": FREE, "and": ("and", 1, num(1), num(1)), "less": ("less", 1, num(1), num(1)),
            "load": ("load", 1, num(1)), "mul": MUL, "out": OUT, "store": ("store", num(1), num(1)),
            "sub": SUB,
        }
        for kind, instruction in blocks.items():
            for slot in range(2):
                self.schedule(kind in TWO[1][slot], TWO, (instruction,), ((0, slot),))

    def test_no_slot_does_two_in_one_cycle(self):
        self.schedule(False, ONE, (FREE, SUB), ((0, 0), (0, 0)))
        self.schedule(True, ONE, (FREE, SUB), ((1, 0), (0, 0)))
        self.schedule(True, SIX, (FREE, SUB), ((7, 1), (7, 3)))
        self.schedule(False, SIX, (FREE, SUB), ((7, 3), (7, 3)))
        self.schedule(False, SIX, (FREE, SUB, MUL), ((7, 3), (7, 1), (7, 3)))

    def test_needs_are_met_to_the_cycle(self):
        for first in range(3):
            for cycle in range(10):
                self.schedule(cycle >= first + 4, TWO, (MUL, ADD), ((first, 1), (cycle, 0)))
        for block, w in [
            ((MUL, ("mul", 1, num(1), num(1))), 1), ((MUL, ("add", 1, num(1), num(1))), 4),
            ((("add", 1, num(1), num(1)), MUL), -2), ((ADD, ("mul", 1, num(1), num(1))), -3),
            ((MUL, ("add", 2, num(1), num(1))), 0), ((OUT, ("out", num(1))), 1),
            ((("load", 1, num(1)), ("store", num(1), num(1))), -8),
            ((("store", num(1), num(1)), ("load", 1, num(17))), 9),
            ((("store", num(1), num(1)), ("store", num(17), num(1))), 1),
        ]:
            told = machine(slots=2, mul=4, store=9)
            for cycle in range(30):
                self.schedule(cycle >= 10 + w, told, block, ((10, 0), (cycle, 1)))

    def test_a_later_instruction_may_go_first_where_it_may(self):
        told = machine(slots=1, mul=9)
        block = (("add", 2, reg(1), num(1)), ("mul", 1, num(2), num(3)))
        self.schedule(True, told, block, ((8, 0), (0, 0)))
        self.schedule(False, told, block, ((9, 0), (0, 0)))

    def test_different_cells_do_not_need_each_other(self):
        block = (("store", num(1), num(5)), ("load", 1, num(2)), ("store", num(3), num(5)))
        self.schedule(True, SIX, block, ((0, 5), (0, 3), (0, 1)))
        self.schedule(False, SIX, block[:2] + (("store", num(17), num(5)),), ((0, 5), (0, 3), (0, 1)))

    def test_needs_of_the_next_turn_do_not_count(self):
        self.schedule(True, SIX, (ADD, MUL), ((0, 1), (0, 3)))
        self.pipeline(False, SIX, (ADD, MUL), 1, ((0, 1), (1, 3)))

    def test_somewhat_beyond_the_limits(self):
        block = tuple(("add", k, reg(k + 1), num(2147483648)) for k in range(20))
        told = machine(slots=8, usual=12, registers=17)
        self.schedule(True, told, block, tuple((k, k % 8) for k in range(20)))
        self.schedule(True, told, block, tuple((0 if k < 8 else k, k % 8) for k in range(20)))
        self.schedule(False, told, block, tuple((30 - k, k % 8) for k in range(19)) + ((30, 0),))
        self.schedule(True, ONE, (FREE,), ((10 ** 30, 0),))


class PipelineTest(JudgeTest):
    def test_right_pipelines(self):
        count = ("add", 0, reg(0), num(1))
        self.pipeline(True, ONE, (count,), 1, ((0, 0),))
        self.pipeline(True, ONE, (count,), 1, ((7, 0),))
        self.pipeline(True, ONE, (count,), 9, ((0, 0),))
        self.pipeline(True, ONE, (MUL, ADD), 2, ((0, 0), (5, 0)))
        self.pipeline(True, SIX, (FREE, SUB, MUL), 1, ((0, 1), (0, 3), (4, 5)))

    def test_empty_body(self):
        for interval in (1, 2, 100, 10 ** 30):
            self.pipeline(True, ONE, (), interval, ())
        for interval in (0, -1, True, None, 1.0, "1", (1,)):
            self.pipeline(False, ONE, (), interval, ())
        self.pipeline(False, ONE, (), 1, ((0, 0),))
        self.pipeline(False, ONE, (), 1, [])
        self.pipeline(False, ONE, (), 1, None)

    def test_the_interval_is_at_least_1(self):
        for interval in range(-9, 10):
            self.pipeline(interval >= 1, ONE, (FREE,), interval, ((0, 0),))
        # All but the interval is right: nothing is needed of the turn before.
        block = (("load", 1, num(1)), ("out", num(1)))
        self.pipeline(False, SIX, block, 0, ((0, 1), (0, 3)))
        self.pipeline(False, SIX, block, -1, ((0, 1), (0, 3)))

    def test_the_interval_is_an_integer(self):
        self.pipeline(True, SIX, (FREE, SUB), 1, ((0, 1), (0, 3)))
        for interval in (True, 1.0, "1", None, (1,), [1], b"1", 1j):
            self.pipeline(False, SIX, (FREE, SUB), interval, ((0, 1), (0, 3)))

    def test_one_entry_for_each_instruction(self):
        for schedule in ((), ((0, 0),), ((0, 0), (1, 0), (2, 0))):
            self.pipeline(False, ONE, (FREE, SUB), 3, schedule)
        self.pipeline(True, ONE, (FREE, SUB), 3, ((0, 0), (1, 0)))

    def test_cycles_are_not_negative(self):
        self.pipeline(False, ONE, (FREE,), 2, ((-1, 0),))
        self.pipeline(False, ONE, (FREE,), 2, ((-2, 0),))
        self.pipeline(False, ONE, (FREE, SUB), 2, ((0, 0), (-1, 0)))

    def test_slots(self):
        for slot in range(-7, 8):
            self.pipeline(slot in (1, 3, 5), SIX, (FREE,), 2, ((0, slot),))
        for slot in range(2):
            self.pipeline(slot == 1, TWO, (MUL,), 2, ((0, slot),))
            self.pipeline(slot == 0, TWO, (OUT,), 2, ((0, slot),))

    def test_no_slot_does_two_in_one_cycle_of_the_interval(self):
        for interval in range(1, 8):
            for a in range(12):
                for b in range(12):
                    apart = a % interval != b % interval
                    self.pipeline(apart, ONE, (FREE, SUB), interval, ((a, 0), (b, 0)))
                    self.pipeline(True, SIX, (FREE, SUB), interval, ((a, 1), (b, 3)))

    def test_needs_within_a_turn(self):
        for cycle in range(9):
            self.pipeline(cycle >= 4, TWO, (MUL, ADD), 20, ((0, 1), (cycle, 0)))

    def test_needs_on_the_turn_before(self):
        # The mul of the next turn writes the register that the add reads, by
        # 1 - 4 cycles behind it.
        for interval in range(1, 12):
            for cycle in range(4, 16):
                right = interval >= cycle - 3
                self.pipeline(right, TWO, (MUL, ADD), interval, ((0, 1), (cycle, 0)))

    def test_needs_on_itself(self):
        for latency in range(1, 10):
            told = machine(add=latency)
            for interval in range(1, 12):
                for cycle in (0, 3):
                    place = ((cycle, 0),)
                    own = ("add", 0, reg(0), num(1))
                    self.pipeline(interval >= latency, told, (own,), interval, place)
                    self.pipeline(True, told, (FREE,), interval, place)

    def test_needs_of_b_before_a(self):
        # The first reads what the second wrote in the turn before.
        body = (("add", 1, reg(2), num(1)), ("mul", 2, num(3), num(4)))
        for interval in range(1, 9):
            for a in range(9):
                for b in range(9):
                    right = a + interval >= b + 4 and b >= a - 3
                    self.pipeline(right, TWO, body, interval, ((a, 0), (b, 1)))

    def test_outputs_of_two_turns(self):
        body = (("out", num(1)), ("out", num(2)))
        for interval in range(1, 6):
            for a in range(6):
                for b in range(6):
                    right = b >= a + 1 and a + interval >= b + 1
                    self.pipeline(right, SIX, body, interval, ((a, 1), (b, 3)))

    def test_memory_of_two_turns(self):
        told = machine(slots=2, store=3)
        for at, needed in [(num(5), False), (num(22), True), (num(6), True), (reg(1), True)]:
            body = (("load", 1, num(6)), ("store", at, num(1)))
            for interval in range(1, 6):
                for cycle in range(6):
                    right = not needed or interval >= cycle + 3
                    # The load writes r1, which the store may read.
                    if at == reg(1):
                        right = right and cycle >= 1
                    self.pipeline(right, told, body, interval, ((0, 0), (cycle, 1)))


class AnyValuesTest(JudgeTest):
    BLOCK = (FREE, SUB)
    SCHEDULE = ((1, 1), (1, 3))

    def judges(self, told, block, interval, schedule):
        self.assertIs(is_schedule(told, block, schedule), False)
        self.assertIs(is_pipeline(told, block, interval, schedule), False)

    def test_the_schedule_is_right_as_it_stands(self):
        self.schedule(True, SIX, self.BLOCK, self.SCHEDULE)
        self.pipeline(True, SIX, self.BLOCK, 1, self.SCHEDULE)

    def test_any_value_for_a_part_of_a_schedule(self):
        for value in ODD_VALUES + [deep(5000)]:
            for path in ((), (0,), (1,), (0, 0), (0, 1), (1, 0), (1, 1)):
                schedule = changed(self.SCHEDULE, path, value)
                if type(value) is int and value >= 0 and path in ((0, 0), (1, 0)):
                    self.assertIs(is_schedule(SIX, self.BLOCK, schedule), True)
                elif type(value) is int and value == 1 and path == (0, 1):
                    self.assertIs(is_schedule(SIX, self.BLOCK, schedule), True)
                else:
                    self.judges(SIX, self.BLOCK, 1, schedule)

    def test_true_is_no_integer(self):
        for path in ((0, 0), (0, 1), (1, 0)):
            for disguise in DISGUISES:
                self.judges(SIX, self.BLOCK, 1, changed(self.SCHEDULE, path, disguise(1)))
        zero = machine(slots=2)
        for path in ((0, 0), (0, 1)):
            self.judges(zero, (FREE,), 1, changed(((0, 0),), path, False))

    def test_tuples_of_other_lengths(self):
        for pair in ((), (1,), (1, 1, 1), (1, 1, None), 1, "11", ((1, 1),)):
            self.judges(SIX, self.BLOCK, 1, changed(self.SCHEDULE, (0,), pair))
            self.judges(SIX, (FREE,), 1, (pair,))

    def test_lists_for_tuples(self):
        for path in ((), (0,), (1,)):
            self.judges(SIX, self.BLOCK, 1, as_list(self.SCHEDULE, path))

    def test_any_value_for_an_interval(self):
        for value in ODD_VALUES + [deep(5000)]:
            right = type(value) is int and value >= 1
            self.assertIs(is_pipeline(SIX, self.BLOCK, value, self.SCHEDULE), right)

    def test_any_value_for_a_machine(self):
        for value in ODD_VALUES + [deep(5000)]:
            self.judges(value, self.BLOCK, 1, self.SCHEDULE)
            self.judges(value, (), 1, ())
            self.assertIs(is_reason(value, self.BLOCK, ("row", (0,), 1)), False)
            self.assertIs(is_loop_reason(value, self.BLOCK, ("busy", ("add",), 1)), False)
            for path in ((1,), (1, 0), (1, 0, 0), (2,), (2, 0), (2, 0, 0)):
                self.judges(changed(ONE, path, value), (), 1, ())

    def test_any_value_for_a_block(self):
        for value in ODD_VALUES + [deep(5000)]:
            for block in (value, (value,), (FREE, value), (value, value)):
                if type(block) is tuple and len(block) == 0:
                    continue
                for schedule in ((), ((0, 1),), self.SCHEDULE):
                    self.judges(SIX, block, 1, schedule)
                self.assertIs(is_reason(SIX, block, ("row", (0,), 1)), False)
                self.assertIs(is_reason(SIX, block, ("busy", ("add",), 0)), False)
                self.assertIs(is_loop_reason(SIX, block, ("busy", ("add",), 0)), False)

    def test_blocks_of_what_is_no_instruction(self):
        for wrong in (
            ("add", 1, reg(1)), ("add", 1, reg(1), num(1), num(1)), ("add", reg(1), reg(1), num(1)),
            ("add", True, reg(1), num(1)), ("add", 1.0, reg(1), num(1)), ("add", -1, reg(1), num(1)),
            ("add", 1, 1, num(1)), ("add", 1, ("reg", -1), num(1)), ("add", 1, ("reg", True), num(1)),
            ("add", 1, ("int", True), num(1)), ("add", 1, ("int",), num(1)), ("add", 1, reg(1), None),
            ("add", 1, ("mem", 1), num(1)), ("add", 1, (1, 1), num(1)), ("add", 1, ["int", 1], num(1)),
            ("add", 1, ("int", 1, 1), num(1)), ("add", 1, "int", num(1)), ("add",), ("div", 1, num(1), num(1)),
            ("load", 1), ("load", num(1), num(1)), ("load", 1, num(1), num(1)), ("store", 1, num(1)),
            ("store", num(1)), ("store", num(1), num(1), num(1)), ("out",), ("out", 1), ("out", num(1), num(1)),
            ("loop", num(1), (FREE,)), ("end",), list(FREE), (["add"], 1, num(1), num(1)), "add", (None,),
        ):
            for slot in (1, 3):
                self.judges(SIX, (wrong,), 1, ((0, slot),))
            self.assertIs(is_reason(SIX, (wrong,), ("row", (0,), 1)), False)
            self.assertIs(is_loop_reason(SIX, (wrong,), ("ring", (0,), (1,), 1)), False)
        self.judges(SIX, [FREE], 1, ((0, 1),))

    def test_machines_of_wrong_form(self):
        for wrong in (
            (16, (KINDS,)), ONE + ((),), list(ONE), (16, [KINDS], ONE[2]), (16, (list(KINDS),), ONE[2]),
            (True, (KINDS,), ONE[2]), (16, (KINDS,), ONE[2][:7]), (16, (KINDS,), ONE[2][::-1]),
            (16, (KINDS[::-1],), ONE[2]), (16, (KINDS + KINDS,), ONE[2]), (16, (KINDS[:7],), ONE[2]),
            changed(ONE, (2, 3, 1), True), changed(ONE, (2, 3, 1), None), changed(ONE, (2, 3), ["load", 1]),
        ):
            self.schedule(False, wrong, (FREE,), ((0, 0),))
            self.pipeline(False, wrong, (FREE,), 1, ((0, 0),))
            self.reason(False, wrong, (FREE,), ("row", (0,), 1))
            self.loop_reason(False, wrong, (FREE,), ("ring", (0,), (1,), 1))

    def test_any_value_for_a_reason(self):
        block = (MUL, ("add", 2, reg(1), num(1)), OUT)
        for value in ODD_VALUES + [deep(5000)]:
            self.assertIs(is_reason(ONE, block, value), False)
            self.assertIs(is_loop_reason(ONE, block, value), False)
        reasons = [
            (is_reason, ("busy", ("add", "mul"), 2)), (is_loop_reason, ("busy", ("add", "mul"), 2)),
            (is_reason, ("row", (0, 1), 5)), (is_loop_reason, ("ring", (0, 1), (0, 1), 5)),
        ]
        for check, reason in reasons:
            self.assertIs(check(ONE, block, reason), True)
            for path in places(reason):
                old = reason
                for k in path:
                    old = old[k]
                for value in ODD_VALUES + [deep(5000)]:
                    if type(value) is not type(old) or value != old:
                        self.assertIs(check(ONE, block, changed(reason, path, value)), False, path)
                if isinstance(old, tuple):
                    for wrong in (list(old), old[:-1], old[1:], old + old, old[::-1]):
                        self.assertIs(check(ONE, block, changed(reason, path, wrong)), False, path)
                    self.assertIs(check(ONE, block, changed(reason, path, old + (None,))), False)
                if isinstance(old, int):
                    for disguise in DISGUISES:
                        wrong = changed(reason, path, disguise(old))
                        self.assertIs(check(ONE, block, wrong), False, wrong)

    def test_arguments_stay_and_answers_repeat(self):
        block = (MUL, ADD, OUT)
        calls = [
            (is_schedule, [ONE, block, ((0, 0), (4, 0), (5, 0))]),
            (is_pipeline, [ONE, block, 7, ((0, 0), (4, 0), (5, 0))]),
            (is_reason, [ONE, block, ("row", (0, 1, 2), 6)]),
            (is_loop_reason, [ONE, block, ("ring", (0, 1), (0, 1), 1)]),
            (is_schedule, [ONE, block, [[0, 0], [4, 0], [5, 0]]]),
            (is_pipeline, [ONE, block, 7, [[0, 0], [4, 0], [5, 0]]]),
            (is_reason, [ONE, block, ["row", [0, 1, 2], 6]]),
            (is_loop_reason, [ONE, block, ["ring", [0, 1], [0, 1], 1]]),
        ]
        before = copy.deepcopy([arguments for _, arguments in calls])
        answers = [True] * 4 + [False] * 4
        self.assertEqual([check(*arguments) for check, arguments in calls], answers)
        for check, arguments in calls[::-1]:
            check(SIX, *arguments[1:])
        self.assertEqual([check(*arguments) for check, arguments in calls], answers)
        self.assertEqual([arguments for _, arguments in calls], before)

    def test_interface(self):
        for name, arguments in [
            ("is_schedule", ["machine", "block", "schedule"]),
            ("is_pipeline", ["machine", "body", "interval", "schedule"]),
            ("is_reason", ["machine", "block", "reason"]),
            ("is_loop_reason", ["machine", "body", "reason"]),
        ]:
            function = getattr(judge, name)
            self.assertEqual(function.__module__, "trireme.judge")
            self.assertEqual(list(inspect.signature(function).parameters), arguments)


class BusyTest(JudgeTest):
    def busy(self, true, told, block, kinds, number):
        self.reason(true, told, block, ("busy", kinds, number))
        self.loop_reason(true, told, block, ("busy", kinds, number))

    def test_the_number_is_rounded_up(self):
        for slots in range(1, 7):
            for many in range(13):
                for number in range(-1, 14):
                    true = number == math.ceil(many / slots)
                    self.busy(true, machine(slots=slots), (FREE,) * many, ("add",), number)

    def test_slots_that_can_do_at_least_one_of_the_kinds(self):
        told = machine(slots=(("add", "sub"), ("add",), KINDS, (), ("sub",)))
        block = (FREE,) * 6 + (SUB,) * 5 + (MUL,) * 2
        for kinds, number in [
            (("add",), 2), (("sub",), 2), (("mul",), 2), (("add", "sub"), 3), (("add", "mul"), 3),
            (("mul", "sub"), 3), (("add", "mul", "sub"), 4), (("less",), 0), (("less", "load"), 0),
            (("and", "mul"), 2), (KINDS, 4), (("add", "and", "sub"), 3),
        ]:
            for other in range(-1, 8):
                self.busy(other == number, told, block, kinds, other)

    def test_kinds(self):
        block = (FREE, SUB)
        self.busy(True, ONE, block, ("add", "sub"), 2)
        for kinds in (
            (), ("sub", "add"), ("add", "add", "sub"), ("add", "sub", "sub"), ("add", "div", "sub"),
            ("add", "sub", "xor"), ("add", "sub", None), ("ADD", "sub"), ["add", "sub"], "add", None,
            (("add", "sub"),), ("add", 1), {"add": 1, "sub": 1}, ("add", ["sub"]),
        ):
            for number in range(3):
                self.busy(False, ONE, block, kinds, number)

    def test_number_0(self):
        self.busy(True, ONE, (), ("add",), 0)
        self.busy(False, ONE, (), ("add",), 1)
        self.busy(False, ONE, (), ("add",), -1)
        self.busy(False, ONE, (), ("add",), False)
        self.busy(False, ONE, (FREE,), ("add",), True)


class RowTest(JudgeTest):
    def test_rows(self):
        block = (MUL, ADD, FREE, OUT)
        for indexes, number in [
            ((0,), 1), ((1,), 1), ((2,), 1), ((3,), 1), ((0, 1), 5), ((1, 3), 2), ((0, 1, 3), 6),
        ]:
            for other in range(-3, 9):
                self.reason(other == number, ONE, block, ("row", indexes, other))
        for indexes in (
            (), (0, 2), (0, 3), (1, 0), (3, 1), (0, 0), (0, 1, 1), (1, 3, 1), (0, 3, 1), (-1,), (4,),
            (0, -3), (0, -1), (-4, 1), (0, 1, 4), (10 ** 20,),
        ):
            for number in range(-3, 9):
                self.reason(False, ONE, block, ("row", indexes, number))

    def test_numbers_that_are_0_or_negative(self):
        # The mul writes what the add reads: 1 minus 4 cycles.
        block = (("add", 2, reg(1), num(1)), ("mul", 1, num(2), num(3)), ("mul", 2, reg(1), num(1)))
        for indexes, number in [((0, 1), -2), ((0, 1, 2), 2), ((0, 2), -1)]:
            for other in range(-6, 7):
                self.reason(other == number, ONE, block, ("row", indexes, other))
        zero = (("add", 2, reg(1), num(1)), ("load", 1, num(3)))
        self.reason(True, machine(load=2), zero, ("row", (0, 1), 0))

    def test_the_greatest_need_counts(self):
        block = (("mul", 3, num(1), num(2)), ("sub", 3, reg(3), num(1)))
        for number in range(-6, 7):
            self.reason(number == 5, ONE, block, ("row", (0, 1), number))

    def test_needs_of_the_turn_before_do_not_count(self):
        block = (ADD, MUL)
        self.reason(True, ONE, block, ("row", (0, 1), -2))
        self.reason(False, ONE, block, ("row", (1, 0), 5))
        self.reason(False, ONE, (("add", 0, reg(0), num(1)),), ("row", (0, 0), 2))

    def test_true_is_no_index_and_no_number(self):
        block = (MUL, ADD)
        self.reason(True, ONE, block, ("row", (0, 1), 5))
        for indexes in ((0, True), (False, 1), (0, 1.0), (0.0, 1), (0, "1"), (0, None), [0, 1], "01"):
            self.reason(False, ONE, block, ("row", indexes, 5))
        self.reason(True, ONE, block, ("row", (0,), 1))
        for number in (True, 1.0, "1", None, (1,)):
            self.reason(False, ONE, block, ("row", (0,), number))

    def test_rows_are_no_reasons_for_pipelines(self):
        for indexes, number in [((0,), 1), ((0, 1), 5)]:
            self.loop_reason(False, ONE, (MUL, ADD), ("row", indexes, number))

    def test_no_row_in_an_empty_block(self):
        for number in (0, 1):
            self.reason(False, ONE, (), ("row", (), number))
            self.reason(False, ONE, (), ("row", (0,), number))


class RingTest(JudgeTest):
    def ring(self, number, body, indexes, distances, told=ONE):
        for other in range(-14, 15):
            self.loop_reason(other == number, told, body, ("ring", indexes, distances, other))

    def test_rings_of_one_instruction(self):
        for latency in range(1, 10):
            told = machine(add=latency)
            self.ring(latency, (("add", 0, reg(0), num(1)),), (0,), (1,), told)
            self.ring(1, (("add", 0, num(0), num(1)),), (0,), (1,), told)
        self.ring(1, (OUT,), (0,), (1,))
        self.ring(1, (FREE, OUT), (1,), (1,))
        self.ring(3, (FREE, ("load", 0, reg(0))), (1,), (1,))

    def test_rings_of_two_instructions(self):
        body = (("mul", 1, reg(2), num(3)), ("add", 2, reg(1), num(1)))
        self.ring(5, body, (0, 1), (0, 1))
        self.ring(3, body, (0, 1), (1, 1))
        self.ring(5, body, (1, 0), (1, 0))
        self.ring(3, body, (1, 0), (1, 1))
        self.ring(None, body, (0, 1), (1, 0))
        self.ring(None, body, (1, 0), (0, 1))
        self.ring(None, body, (0, 1), (0, 0))

    def test_rings_of_three_instructions(self):
        body = (
            ("load", 1, reg(3)), ("mul", 2, reg(1), num(3)), ("add", 3, reg(2), num(1)), FREE,
        )
        self.ring(8, body, (0, 1, 2), (0, 0, 1))
        self.ring(8, body, (1, 2, 0), (0, 1, 0))
        self.ring(8, body, (2, 0, 1), (1, 0, 0))
        self.ring(4, body, (0, 1, 2), (0, 1, 1))
        self.ring(3, body, (0, 1, 2), (1, 1, 1))
        self.ring(None, body, (0, 1, 2), (1, 0, 0))
        self.ring(-1, body, (0, 2, 1), (1, 1, 1))
        self.ring(None, body, (0, 2, 1), (0, 0, 1))
        self.ring(None, body, (0, 1, 3), (0, 0, 1))
        self.ring(None, body, (0, 3), (0, 1))

    def test_halves_are_rounded_up(self):
        # The mul writes what the add reads, by 1 - 9 cycles, and the add of the
        # next turn needs 9 cycles more.
        told = machine(mul=9)
        body = (("add", 2, reg(1), num(1)), ("mul", 1, num(3), num(1)))
        self.ring(1, body, (0, 1), (0, 1), told)
        self.ring(1, body, (0, 1), (1, 1), told)

    def test_numbers_that_are_0_or_negative(self):
        # Each writes what the one before it in the ring reads.
        body = (("mul", 1, reg(2), num(1)), ("mul", 2, reg(3), num(1)), ("mul", 3, reg(1), num(1)))
        for latency, numbers in [
            (1, (0, 0, 0)), (2, (-3, -1, -1)), (3, (-6, -3, -2)), (6, (-15, -7, -5)), (9, (-24, -12, -8)),
        ]:
            told = machine(mul=latency)
            for distances in itertools.product((0, 1), (0, 1), (1,)):
                number = numbers[sum(distances) - 1]
                for other in range(-30, 3):
                    self.loop_reason(
                        other == number, told, body, ("ring", (0, 1, 2), distances, other),
                    )

    def test_instructions_of_a_ring_are_different(self):
        body = (("add", 0, reg(0), num(1)), ("mul", 1, reg(2), num(3)), ("add", 2, reg(1), num(1)))
        self.ring(1, body, (0,), (1,))
        self.ring(None, body, (0, 0), (1, 1))
        self.ring(None, body, (1, 2, 1, 2), (0, 1, 0, 1))
        self.ring(None, body, (2, 2), (1, 1))

    def test_as_many_distances_as_indexes(self):
        body = (("mul", 1, reg(2), num(3)), ("add", 2, reg(1), num(1)))
        for distances in ((), (0,), (1,), (0, 1, 0), (0, 1, 1), (0, 1, None)):
            self.ring(None, body, (0, 1), distances)
        for indexes in ((), (0,), (1,), (0, 1, 0)):
            self.ring(None, body, indexes, (0, 1))
        self.ring(None, body, (), ())

    def test_distances_are_those_of_the_needs(self):
        body = (("mul", 1, reg(2), num(3)), ("add", 2, reg(1), num(1)))
        for distances in ((2, -1), (-1, 2), (0, 2), (2, 0), (2, 1), (0, -1), (-1, -1), (1, 2)):
            self.ring(None, body, (0, 1), distances)
        self.ring(None, body, (0,), (0,))
        self.ring(None, body, (0,), (2,))
        self.ring(None, body, (0,), (-1,))

    def test_indexes_are_in_the_body(self):
        body = (("mul", 1, reg(2), num(3)), ("add", 2, reg(1), num(1)))
        for indexes in ((0, 2), (0, -1), (-2, 1), (-2, -1), (2, 3)):
            self.ring(None, body, indexes, (0, 1))
        for index in (-2, -1, 2, 10 ** 20):
            self.ring(None, body, (index,), (1,))
        self.ring(None, (), (0,), (1,))
        self.ring(None, (), (), ())

    def test_true_is_no_index_no_distance_and_no_number(self):
        body = (("mul", 1, reg(2), num(3)), ("add", 2, reg(1), num(1)))
        reason = ("ring", (0, 1), (0, 1), 5)
        self.loop_reason(True, ONE, body, reason)
        for path, wrong in [
            ((1, 1), True), ((1, 0), False), ((2, 1), True), ((2, 0), False), ((1, 1), 1.0), ((2, 1), 1.0),
            ((3,), 5.0), ((3,), "5"), ((3,), None), ((3,), (5,)), ((1,), [0, 1]), ((2,), [0, 1]),
            ((0,), "Ring"), ((0,), "row"), ((0,), "busy"), ((0,), None), ((2,), "01"), ((1,), "01"),
        ]:
            self.loop_reason(False, ONE, body, changed(reason, path, wrong))
        self.loop_reason(True, ONE, (OUT,), ("ring", (0,), (1,), 1))
        self.loop_reason(False, ONE, (OUT,), ("ring", (0,), (1,), True))
        self.loop_reason(False, ONE, (OUT,), ("ring", (False,), (1,), 1))
        self.loop_reason(False, ONE, (OUT,), ("ring", (0,), (True,), 1))

    def test_rings_are_no_reasons_for_schedules(self):
        body = (("mul", 1, reg(2), num(3)), ("add", 2, reg(1), num(1)))
        self.reason(False, ONE, body, ("ring", (0, 1), (0, 1), 5))
        self.reason(False, ONE, (OUT,), ("ring", (0,), (1,), 1))


class RandomPlansTest(unittest.TestCase):
    """Right plans are right, do what the plain program does, and keep to bounds."""

    def test_schedules(self):
        source = random.Random(15)
        for _ in range(500):
            told = random_machine(source)
            maker = Maker(source, told)
            block = random_block(source, told[0], source.randrange(13))
            schedule = maker.schedule(block)
            self.assertIs(is_schedule(told, block, schedule), True)
            inputs = random_inputs(source, told[0])
            segment = maker.segment(block, schedule)
            self.assertEqual(run_code(told, (segment,), inputs)[:3], run(block, inputs))

    def test_no_right_schedule_is_shorter_than_a_row(self):
        source = random.Random(19)
        for _ in range(60):
            told = random_machine(source)
            maker = Maker(source, told)
            block = random_block(source, told[0], source.randrange(7))
            numbers = list(self.numbers_of_rows(told, block))
            for _ in range(20):
                length = len(maker.segment(block, maker.schedule(block))[1])
                self.assertGreaterEqual(length, max(numbers, default=0))

    def numbers_of_rows(self, told, block):
        ws = {(a, b): w for a, b, w, _ in needs(told, block)}
        for many in range(1, 4):
            for row in itertools.combinations(range(len(block)), many):
                steps = list(zip(row, row[1:]))
                if all(step in ws for step in steps):
                    number = sum(ws[step] for step in steps) + 1
                    self.assertIs(is_reason(told, block, ("row", row, number)), True)
                    self.assertIs(is_reason(told, block, ("row", row, number + 1)), False)
                    yield number
                else:
                    self.assertIs(is_reason(told, block, ("row", row, 1)), False)

    def test_pipelines(self):
        source = random.Random(16)
        for _ in range(300):
            told = random_machine(source)
            maker = Maker(source, told)
            body = random_block(source, told[0], source.randint(1, 7))
            interval, schedule = maker.pipeline(body)
            self.assertIs(is_pipeline(told, body, interval, schedule), True)
            turns = num(source.randint(-1, 7))
            inputs = random_inputs(source, told[0])
            code = (maker.kernel(turns, body, interval, schedule),)
            self.assertEqual(
                run_code(told, code, inputs)[:3], run((("loop", turns, body),), inputs),
            )

    def test_no_right_pipeline_has_an_interval_less_than_a_ring(self):
        source = random.Random(20)
        for _ in range(60):
            told = random_machine(source)
            maker = Maker(source, told)
            body = random_block(source, told[0], source.randrange(5))
            numbers = list(self.numbers_of_rings(told, body))
            for _ in range(20):
                self.assertGreaterEqual(maker.pipeline(body)[0], max(numbers, default=0))

    def numbers_of_rings(self, told, body):
        ws = {(a, b, d): w for a, b, w, d in loop_needs(told, body)}
        for many in range(1, 4):
            for ring in itertools.permutations(range(len(body)), many):
                for distances in itertools.product((0, 1), repeat=many):
                    steps = list(zip(ring, ring[1:] + ring[:1], distances))
                    if not any(distances) or any(step not in ws for step in steps):
                        told_reason = ("ring", ring, distances, 1)
                        self.assertIs(is_loop_reason(told, body, told_reason), False)
                        continue
                    number = math.ceil(sum(ws[step] for step in steps) / sum(distances))
                    told_reason = ("ring", ring, distances, number)
                    self.assertIs(is_loop_reason(told, body, told_reason), True)
                    yield number

    def test_changed_schedules(self):
        source = random.Random(17)
        seen = {True: 0, False: 0}
        for _ in range(2500):
            told = random_machine(source)
            block = random_block(source, told[0], source.randint(1, 6))
            schedule = Maker(source, told).schedule(block)
            k = source.randrange(len(block))
            cycle, slot = schedule[k]
            place = source.choice([
                (cycle + source.randint(-3, 2), slot), (cycle, source.randint(-1, len(told[1]))),
            ])
            schedule = changed(schedule, (k,), place)
            right = self.is_right(told, block, schedule, needs(told, block), None)
            seen[right] += 1
            self.assertIs(is_schedule(told, block, schedule), right)
        self.assertGreater(min(seen.values()), 500)

    def test_changed_pipelines(self):
        source = random.Random(18)
        seen = {True: 0, False: 0}
        for _ in range(800):
            told = random_machine(source)
            body = random_block(source, told[0], source.randint(1, 5))
            interval, schedule = Maker(source, told).pipeline(body)
            k = source.randrange(len(body))
            cycle, slot = schedule[k]
            if source.random() < 0.4:
                interval += source.choice((-1, 1))
            else:
                place = source.choice([
                    (cycle + source.randint(-3, 2), slot), (cycle, source.randint(-1, len(told[1]))),
                ])
                schedule = changed(schedule, (k,), place)
            right = self.is_right(told, body, schedule, loop_needs(told, body), interval)
            seen[right] += 1
            self.assertIs(is_pipeline(told, body, interval, schedule), right)
        self.assertGreater(min(seen.values()), 150)

    def is_right(self, told, block, schedule, wanted, interval):
        if interval is not None and interval < 1:
            return False
        for (cycle, slot), instruction in zip(schedule, block):
            if cycle < 0 or slot not in range(len(told[1])):
                return False
            if instruction[0] not in told[1][slot]:
                return False
        for (cycle, slot), (other, another) in itertools.combinations(schedule, 2):
            apart = other - cycle if interval is None else (other - cycle) % interval
            if slot == another and apart == 0:
                return False
        return all(
            schedule[b][0] + (distance and distance * interval) - schedule[a][0] >= w
            for a, b, w, distance in wanted
        )


if __name__ == "__main__":
    unittest.main()
