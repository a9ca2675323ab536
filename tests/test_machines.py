"""Tests of machines and of their runs: points 2 and 9 to 12."""

import copy
import inspect
import random
import unittest

from helpers import (
    KINDS, ODD_VALUES, as_list, changed, deep, latencies, machine, num, places, random_inputs,
    random_instruction, random_machine, random_operand, reg,
)
from trireme.machines import is_machine, run_code
from trireme.plain import run

LOW = -2147483648
HIGH = 2147483647
OUTPUTS, REGISTERS, CELLS, CYCLES = 0, 1, 2, 3

PLAIN = machine()


def words(*rows):
    """A segment; a word is told by its one instruction, or as a tuple of several."""
    return ("words", tuple(as_word(row) for row in rows))


def as_word(row):
    if row is None or isinstance(row[0], str):
        return (row,)
    return row


def kernel(n, rows, stages):
    return ("kernel", n, tuple(as_word(row) for row in rows), tuple(
        stage if isinstance(stage, tuple) else (stage,) for stage in stages
    ))


def padded(*numbers):
    return numbers + (0,) * (16 - len(numbers))


class IsMachineTest(unittest.TestCase):
    def accept(self, value):
        with self.subTest(value=value):
            self.assertIs(is_machine(value), True)

    def refuse(self, value):
        with self.subTest(value=value):
            self.assertIs(is_machine(value), False)

    def test_ordinary_machines(self):
        self.accept(machine())
        self.accept(machine(slots=2, registers=8, mul=3, load=2))
        self.accept((4, (
            ("add", "less", "sub"), ("and", "mul"), ("load", "store"), ("out",),
        ), latencies(2)))

    def test_registers_are_from_1_to_16(self):
        for registers in range(1, 17):
            self.accept(machine(registers=registers))
        for registers in (0, -1, 17, 18, 1000, True, False, None, 1.0, "4", (4,), ()):
            self.refuse(machine(registers=registers))

    def test_there_are_at_most_6_slots(self):
        for slots in range(1, 7):
            self.accept(machine(slots=slots))
        for slots in (0, 7, 8, 20):
            self.refuse(machine(slots=slots))
        self.accept(machine(slots=((),) * 5 + (KINDS,)))
        self.refuse(machine(slots=((),) * 6 + (KINDS,)))

    def test_empty_slots(self):
        self.accept(machine(slots=((), KINDS)))
        self.accept(machine(slots=(KINDS, (), ())))
        self.refuse(machine(slots=((),)))
        self.refuse(machine(slots=()))

    def test_each_kind_is_done_by_a_slot(self):
        for k in range(8):
            left = KINDS[:k] + KINDS[k + 1:]
            self.refuse(machine(slots=(left,)))
            self.refuse(machine(slots=(left, (), left)))
            self.accept(machine(slots=(left, (KINDS[k],))))
            self.accept(machine(slots=((KINDS[k],), left)))
            self.accept(machine(slots=(left, KINDS)))

    def test_kinds_of_a_slot_ascend_without_doubles(self):
        for wrong in (
            ("sub", "add"), ("add", "add"), ("add", "and", "add"), ("and", "add", "less"),
            KINDS[::-1], KINDS + KINDS, KINDS + ("sub",), ("add",) + KINDS,
        ):
            self.refuse(machine(slots=(KINDS, wrong)))
            self.refuse(machine(slots=(wrong, KINDS)))

    def test_kinds_of_a_slot_are_known(self):
        for wrong in (
            "div", "", "Add", "add ", "adds", "loop", "end", "nop", None, 0, 1, True, ("add",), ["add"],
            b"add", {}, (),
        ):
            self.refuse(machine(slots=(KINDS, (wrong,))))
            self.refuse(machine(slots=((wrong,), KINDS)))
        for wrong in ("add", "", None, 0, True, list(KINDS), ["add"], {"add": 1}, {"add"}):
            self.refuse(machine(slots=(KINDS, wrong)))
        for wrong in (KINDS, "add", None, 1, True, [KINDS], {KINDS: 1}):
            self.refuse((4, wrong, latencies()))

    def test_latencies_are_from_1_to_9(self):
        for kind in range(8):
            for latency in range(1, 10):
                self.accept(changed(PLAIN, (2, kind, 1), latency))
            for latency in (0, -1, 10, 11, 100, True, False, None, 1.0, "1", (1,), ()):
                self.refuse(changed(PLAIN, (2, kind, 1), latency))
        self.accept(machine(usual=9))
        self.refuse(machine(usual=10))

    def test_latencies_are_of_the_eight_kinds_in_order(self):
        pairs = latencies(3)
        for wrong in (
            pairs[::-1], pairs[:7], pairs[1:], pairs + pairs[7:], pairs + (("xor", 3),), pairs + pairs,
            pairs[:1] + pairs[:7], pairs[1:2] + pairs[:1] + pairs[2:], (), dict(pairs), list(pairs),
            None, 8, "latencies", tuple(3 for _ in pairs), tuple(kind for kind, _ in pairs),
        ):
            self.refuse((4, (KINDS,), wrong))
        for k, (kind, latency) in enumerate(pairs):
            for wrong in (
                (kind,), (kind, latency, latency), (latency, kind), [kind, latency], kind, latency, None,
                (), ("div", latency), (kind.upper(), latency), (None, latency), (k, latency),
                ((kind,), latency), {kind: latency},
            ):
                self.refuse((4, (KINDS,), changed(pairs, (k,), wrong)))

    def test_a_machine_is_a_triple(self):
        self.refuse(PLAIN[:2])
        self.refuse(PLAIN + (None,))
        self.refuse(PLAIN + PLAIN)
        self.refuse((PLAIN,))
        self.refuse(PLAIN[::-1])
        self.refuse((PLAIN[1], PLAIN[0], PLAIN[2]))

    def test_other_values(self):
        for value in ODD_VALUES + [deep(5000)]:
            self.assertIs(is_machine(value), False)
            for path in ((0,), (1,), (1, 0), (1, 0, 0), (2,), (2, 0), (2, 0, 0), (2, 0, 1)):
                if value == 1 and type(value) is int and path in ((0,), (2, 0, 1)):
                    continue
                if type(value) is int and value == 7 and path in ((0,), (2, 0, 1)):
                    continue
                with self.subTest(path=path):
                    self.assertIs(is_machine(changed(PLAIN, path, value)), False)

    def test_lists_for_tuples(self):
        told = machine(slots=2)
        for path in places(told):
            part = told
            for k in path:
                part = part[k]
            if isinstance(part, tuple):
                self.refuse(as_list(told, path))

    def test_interface(self):
        self.assertEqual(is_machine.__module__, "trireme.machines")
        self.assertEqual(list(inspect.signature(is_machine).parameters), ["machine"])
        self.assertEqual(run_code.__module__, "trireme.machines")
        self.assertEqual(
            list(inspect.signature(run_code).parameters), ["machine", "code", "inputs"],
        )


class WordsTest(unittest.TestCase):
    def outputs(self, told_machine, *rows, inputs=()):
        return run_code(told_machine, (words(*rows),), inputs)[OUTPUTS]

    def test_no_code(self):
        for code in ((), (words(),), (words(), words())):
            self.assertEqual(run_code(PLAIN, code, (5, -6)), ((), padded(5, -6), padded(), 0))

    def test_each_instruction_does_what_the_plain_one_does(self):
        values = (LOW, -17, -1, 0, 1, 3, 15, 16, 65536, HIGH)
        for op in KINDS:
            for a in values:
                for b in values:
                    operands = (2, reg(0), reg(1))
                    instruction = (op, *{
                        "load": (2, reg(0)), "store": (reg(0), reg(1)), "out": (reg(0),),
                    }.get(op, operands))
                    program = (("store", num(3), num(77)), instruction)
                    self.assertEqual(
                        run_code(PLAIN, (words(*program),), (a, b))[:3], run(program, (a, b)),
                    )

    def test_one_word_per_cycle(self):
        for many in range(6):
            self.assertEqual(run_code(PLAIN, (words(*[None] * many),), ())[CYCLES], many)
            rows = [("out", num(k)) for k in range(many)]
            self.assertEqual(
                run_code(PLAIN, (words(*rows),), ()), (tuple(range(many)), padded(), padded(), many),
            )
            self.assertEqual(run_code(machine(slots=3), (words(*[(None,) * 3] * many),), ())[CYCLES], many)

    def test_a_result_arrives_its_latency_later(self):
        for op, kept in [("add", 9), ("sub", -3), ("mul", 18), ("and", 2), ("less", 1)]:
            for latency in range(1, 10):
                told = machine(usual=3, **{op if op != "and" else "and_": latency})
                rows = [(op, 0, num(3), num(6))] + [("out", reg(0))] * 10
                with self.subTest(op=op, latency=latency):
                    self.assertEqual(
                        self.outputs(told, *rows, inputs=(50,)),
                        (50,) * (latency - 1) + (kept,) * (11 - latency),
                    )

    def test_a_load_reads_at_once_and_arrives_later(self):
        for latency in range(1, 10):
            told = machine(load=latency, store=1)
            rows = [("store", num(2), num(7)), ("load", 0, num(2)), ("store", num(2), num(8))]
            rows += [("out", reg(0))] * 9
            self.assertEqual(
                self.outputs(told, *rows, inputs=(50,)),
                (50,) * max(0, latency - 2) + (7,) * min(9, 11 - latency),
            )

    def test_a_store_arrives_its_latency_later(self):
        for latency in range(1, 10):
            told = machine(slots=2, store=latency)
            first = (("store", num(18), num(7)), None)
            rest = [(("load", 0, num(2)), ("out", reg(0)))] * 12
            self.assertEqual(
                self.outputs(told, first, *rest), (0,) * latency + (7,) * (12 - latency),
            )

    def test_a_store_takes_its_operands_when_it_is_executed(self):
        told = machine(slots=2, store=4)
        rows = [
            (("store", reg(0), reg(1)), None),
            (("add", 0, num(9), num(0)), ("add", 1, num(9), num(0))),
        ]
        self.assertEqual(
            run_code(told, (words(*rows),), (2, 5)), ((), padded(9, 9), padded(0, 0, 5), 4),
        )

    def test_who_reads_too_early_gets_the_old_value(self):
        told = machine(mul=3)
        early = [("mul", 1, num(6), num(7)), None, ("add", 2, reg(1), num(0))]
        timely = [("mul", 1, num(6), num(7)), None, None, ("add", 2, reg(1), num(0))]
        self.assertEqual(run_code(told, (words(*early),), (0, 5))[REGISTERS], padded(0, 42, 5))
        self.assertEqual(run_code(told, (words(*timely),), (0, 5))[REGISTERS], padded(0, 42, 42))

    def test_all_slots_read_before_anything_of_the_word_arrives(self):
        told = machine(slots=3)
        swap = (("add", 0, reg(1), num(0)), ("add", 1, reg(0), num(0)), ("out", reg(0)))
        self.assertEqual(
            run_code(told, (words(swap, swap, swap),), (3, 4)),
            ((3, 4, 3), padded(4, 3), padded(), 3),
        )
        memory = (("store", num(0), num(9)), ("load", 2, num(0)), None)
        self.assertEqual(run_code(told, (words(memory),), ())[1:3], (padded(), padded(9)))

    def test_outputs_stand_in_the_order_of_the_slots(self):
        told = machine(slots=6)
        word = tuple(("out", num(k)) for k in (4, 2, 9, 1, 1, 0))
        self.assertEqual(self.outputs(told, word, word[::-1]), (4, 2, 9, 1, 1, 0, 0, 1, 1, 9, 2, 4))
        self.assertEqual(
            self.outputs(told, (None, ("out", num(5)), None, None, ("out", num(6)), None)), (5, 6),
        )

    def test_of_results_that_arrive_together_the_later_executed_one_stays(self):
        told = machine(mul=4, add=3, sub=2, and_=1)
        rows = [
            ("mul", 0, num(2), num(5)), ("add", 0, num(2), num(5)), ("sub", 0, num(2), num(5)),
            ("and", 0, num(7), num(5)), ("out", reg(0)),
        ]
        for dropped, stays in [((), 5), ((3,), -3), ((3, 2), 7), ((3, 2, 1), 10)]:
            kept = [None if k in dropped else row for k, row in enumerate(rows)]
            with self.subTest(dropped=dropped):
                self.assertEqual(self.outputs(told, *kept, inputs=(50,)), (stays,))

    def test_a_later_result_overtakes_an_earlier_one(self):
        told = machine(mul=4, add=1)
        rows = [("mul", 0, num(2), num(5)), ("add", 0, num(2), num(5))] + [("out", reg(0))] * 4
        self.assertEqual(
            run_code(told, (words(*rows),), (50,)), ((7, 7, 10, 10), padded(10), padded(), 6),
        )

    def test_of_one_word_the_greater_slot_stays(self):
        told = machine(slots=4, usual=2)
        word = tuple(("add", 0, num(k), num(0)) for k in (5, 6, 7, 8))
        for many in range(1, 5):
            self.assertEqual(
                run_code(told, (words(word[:many] + (None,) * (4 - many)),), ())[REGISTERS],
                padded(4 + many),
            )
        self.assertEqual(run_code(told, (words(word[::-1]),), ())[REGISTERS], padded(5))

    def test_earlier_execution_goes_before_the_slot(self):
        told = machine(slots=2, mul=2, add=1)
        for rows in (
            [(None, ("mul", 0, num(2), num(5))), (("add", 0, num(2), num(5)), None)],
            [(("mul", 0, num(2), num(5)), None), (None, ("add", 0, num(2), num(5)))],
        ):
            self.assertEqual(run_code(told, (words(*rows),), ())[REGISTERS], padded(7))

    def test_contents_of_a_cell_that_arrive_together(self):
        told = machine(slots=3, store=3)
        word = (("store", num(1), num(5)), ("store", num(17), num(6)), ("store", num(2), num(7)))
        self.assertEqual(run_code(told, (words(word),), ())[CELLS], padded(0, 6, 7))
        self.assertEqual(run_code(told, (words(word[::-1]),), ())[CELLS], padded(0, 5, 7))

    def test_there_is_no_wait_between_words(self):
        told = machine(add=5)
        rows = [("add", 0, num(1), num(0)), ("out", reg(0)), ("out", reg(0))]
        apart = run_code(told, (words(rows[0]), words(), words(rows[1]), words(rows[2])), ())
        self.assertEqual(apart, ((0, 0), padded(1), padded(), 5))
        self.assertEqual(apart, run_code(told, (words(*rows),), ()))

    def test_at_the_end_the_machine_waits_for_all_results(self):
        for latency in range(1, 10):
            for behind in range(12):
                told = machine(add=latency, store=latency, load=latency)
                for instruction, registers, cells in [
                    (("add", 1, num(3), num(4)), padded(0, 7), padded()),
                    (("store", num(1), num(9)), padded(), padded(0, 9)),
                    (("load", 1, num(0)), padded(), padded()),
                ]:
                    with self.subTest(latency=latency, behind=behind, instruction=instruction):
                        self.assertEqual(
                            run_code(told, (words(instruction, *[None] * behind),), ()),
                            ((), registers, cells, max(latency, 1 + behind)),
                        )

    def test_the_latest_result_counts(self):
        told = machine(mul=9, add=2)
        rows = [("mul", 0, num(2), num(5)), ("add", 1, num(2), num(5))]
        self.assertEqual(run_code(told, (words(*rows),), ()), ((), padded(10, 7), padded(), 9))
        self.assertEqual(run_code(told, (words(*rows[::-1]),), ())[CYCLES], 10)

    def test_an_out_makes_nothing_wait(self):
        for latency in range(1, 10):
            told = machine(out=latency)
            self.assertEqual(
                run_code(told, (words(("out", num(1)), ("out", num(2))),), ()),
                ((1, 2), padded(), padded(), 2),
            )


class KernelTest(unittest.TestCase):
    def test_number_of_turns(self):
        code = lambda n: (kernel(n, [("add", 1, reg(1), num(1))], [0]),)
        for turns, done in [
            (0, 0), (1, 1), (2, 2), (39, 39), (40, 40), (41, 40), (1000, 40), (HIGH, 40), (-1, 0),
            (-40, 0), (LOW, 0),
        ]:
            with self.subTest(turns=turns):
                told = ((), padded(turns, done), padded(), done)
                self.assertEqual(run_code(PLAIN, code(num(turns)), (turns,)), told)
                self.assertEqual(run_code(PLAIN, code(reg(0)), (turns,)), told)

    def test_cycles_are_those_of_turns_and_stages(self):
        for interval in range(1, 5):
            for stage in range(4):
                for turns in range(5):
                    rows = [None] * (interval - 1) + [("out", num(5))]
                    stages = [None] * (interval - 1) + [stage]
                    cycles = (turns + stage) * interval if turns else 0
                    with self.subTest(interval=interval, stage=stage, turns=turns):
                        self.assertEqual(
                            run_code(PLAIN, (kernel(num(turns), rows, stages),), ()),
                            ((5,) * turns, padded(), padded(), cycles),
                        )

    def test_without_instructions_the_greatest_stage_is_0(self):
        for turns in range(4):
            for interval in range(1, 4):
                code = (kernel(num(turns), [None] * interval, [None] * interval),)
                self.assertEqual(
                    run_code(PLAIN, code, (1, 2)), ((), padded(1, 2), padded(), turns * interval),
                )

    def test_turns_overlap_by_their_stages(self):
        told = machine(slots=3)
        rows = [(("out", num(1)), ("out", num(2)), None), (None, ("out", num(3)), ("out", num(4)))]
        stages = [(0, 2, None), (None, 1, 0)]
        expected = {
            1: (1, 4, 3, 2), 2: (1, 4, 1, 3, 4, 2, 3, 2),
            3: (1, 4, 1, 3, 4, 1, 2, 3, 4, 2, 3, 2),
        }
        for turns, outputs in expected.items():
            self.assertEqual(
                run_code(told, (kernel(num(turns), rows, stages),), ()),
                (outputs, padded(), padded(), (turns + 2) * 2),
            )

    def test_stages_that_begin_above_0(self):
        rows, stages = [("out", num(1)), ("out", num(2))], [3, 1]
        self.assertEqual(
            run_code(PLAIN, (kernel(num(2), rows, stages),), ()),
            ((2, 2, 1, 1), padded(), padded(), 10),
        )

    def test_a_pipeline_of_three_stages(self):
        told = machine(slots=3, mul=2)
        word = (("load", 1, reg(0)), ("mul", 2, reg(1), num(3)), ("store", reg(3), reg(2)))
        move = (("add", 0, reg(0), num(1)), ("add", 3, reg(0), num(4)), None)
        code = (
            words((("store", num(0), num(5)), ("store", num(1), num(6)), ("store", num(2), num(7)))),
            kernel(num(3), [word, move], [(0, 1, 2), (0, 2, None)]),
        )
        self.assertEqual(
            run_code(told, code, ())[CELLS][:8], (15, 6, 7, 0, 0, 0, 18, 21),
        )

    def test_the_number_of_turns_is_read_when_the_kernel_begins(self):
        told = machine(add=5)
        rows, stages = [("out", reg(0))], [0]
        code = (words(("add", 0, num(3), num(0))), kernel(reg(0), rows, stages))
        self.assertEqual(run_code(told, code, (1,)), ((3, 3, 3), padded(3), padded(), 8))

    def test_the_number_of_turns_does_not_change_later(self):
        for change, left in [(5, 24), (-1, 0), (-9, -32)]:
            rows = [("add", 0, reg(0), num(change))]
            self.assertEqual(
                run_code(PLAIN, (kernel(reg(0), rows, [0]),), (4,)), ((), padded(left), padded(), 4),
            )

    def test_the_machine_waits_before_and_behind_a_kernel(self):
        told = machine(mul=7, add=3)
        code = (
            words(("mul", 0, num(2), num(3))),
            kernel(num(2), [("add", 1, reg(0), num(1)), ("out", reg(0))], [0, 0]),
            words(("out", reg(1)), ("mul", 2, num(3), num(3)), ("out", reg(2))),
        )
        # 7 cycles, 4 of the kernel, 1 of waiting, and 8 until the mul is done.
        self.assertEqual(run_code(told, code, ()), ((6, 6, 7, 0), padded(6, 7, 9), padded(), 20))

    def test_the_machine_waits_before_a_kernel_without_turns(self):
        told = machine(mul=7)
        rows = [("mul", 0, num(2), num(3)), ("out", reg(0))]
        for n, inputs in [(num(0), ()), (num(-3), ()), (reg(1), ()), (reg(1), (0, -1))]:
            code = (words(*rows), kernel(n, [None], [None]), words(("out", reg(0))))
            told_run = run_code(told, code, inputs)
            self.assertEqual((told_run[OUTPUTS], told_run[CYCLES]), ((0, 6), 8))

    def test_cycles_that_have_passed_are_not_waited_again(self):
        told = machine(mul=4)
        for passed in range(8):
            code = (
                words(("mul", 0, num(2), num(3)), *[None] * passed),
                kernel(num(1), [("out", reg(0))], [0]),
            )
            self.assertEqual(run_code(told, code, ()), (
                (6,), padded(6), padded(), max(4, 1 + passed) + 1,
            ))

    def test_nothing_waits_within_a_kernel(self):
        told = machine(slots=2, add=3)
        rows = [(("add", 0, reg(0), num(1)), ("out", reg(0)))]
        self.assertEqual(
            run_code(told, (kernel(num(7), rows, [(0, 0)]),), ()),
            ((0, 0, 0, 1, 1, 1, 2), padded(3), padded(), 9),
        )

    def test_kernel_behind_kernel(self):
        told = machine(add=4)
        one = kernel(num(1), [("add", 0, reg(0), num(2))], [0])
        two = kernel(reg(0), [("out", reg(0))], [0])
        self.assertEqual(run_code(told, (one, two, one, two), ()), (
            (2, 2, 4, 4, 4, 4), padded(4), padded(), 14,
        ))


class RunsTest(unittest.TestCase):
    def test_inputs_begin_the_registers(self):
        for many in range(17):
            for registers in (1, 4, 16):
                inputs = tuple(range(100, 100 + many))
                self.assertEqual(
                    run_code(machine(registers=registers), (), inputs), ((), padded(*inputs), padded(), 0),
                )

    def test_registers_that_the_machine_does_not_have_are_those_of_the_inputs(self):
        told = machine(registers=2)
        code = (words(("add", 0, num(1), num(2)), ("add", 1, num(3), num(4))),)
        self.assertEqual(
            run_code(told, code, (9, 8, 7, 6)), ((), padded(3, 7, 7, 6), padded(), 2),
        )

    def test_kinds_of_what_is_returned(self):
        code = (words(
            ("less", 0, num(1), num(2)), ("less", 1, num(2), num(1)), ("store", num(0), reg(0)),
            ("store", num(1), reg(1)), ("out", reg(0)), ("out", reg(1)),
        ),)
        told = run_code(PLAIN, code, ())
        self.assertEqual(told, ((1, 0), padded(1), padded(1), 6))
        self.assertIs(type(told), tuple)
        self.assertEqual([type(part) for part in told], [tuple, tuple, tuple, int])
        self.assertEqual([len(part) for part in told[:3]], [2, 16, 16])
        for part in told[:3]:
            self.assertEqual({type(number) for number in part}, {int})

    def test_no_error_somewhat_beyond_the_limits(self):
        told = machine(slots=8, registers=20, usual=12)
        word = tuple(("add", k, num(k), num(0)) for k in range(12, 20))
        self.assertEqual(
            run_code(told, (words(word),), tuple(range(20))),
            ((), tuple(range(16)), padded(), 12),
        )
        self.assertEqual(run_code(machine(slots=8), (words((None,) * 8),), ())[CYCLES], 1)

    def test_arguments_stay_and_answers_repeat(self):
        told = machine(slots=2, registers=3, mul=3)
        code = (
            words((("mul", 0, reg(0), num(2)), ("store", reg(0), num(5)))),
            kernel(reg(0), [(("out", reg(1)), ("add", 1, reg(1), num(1)))], [(1, 0)]),
        )
        inputs = (2, 3)
        before = copy.deepcopy((told, code, inputs))
        first = run_code(told, code, inputs)
        self.assertEqual(first, ((4, 5, 6, 7), padded(4, 7), padded(0, 0, 5), 8))
        run_code(PLAIN, (words(("store", num(2), num(9)), ("out", num(1))),), (8, 8, 8))
        self.assertEqual(run_code(told, code, inputs), first)
        self.assertEqual((told, code, inputs), before)


class History:
    """A second telling of points 10 to 12: a place holds all that ever arrives in it."""

    def __init__(self, told, inputs):
        self.latencies = dict(told[2])
        self.arrivals = {("reg", k): [((0, -1, -1), n)] for k, n in enumerate(inputs)}
        self.outputs = []
        self.now = 0

    def content(self, place, cycle):
        rows = self.arrivals.get(place, [])
        there = [row for row in rows if row[0][0] <= cycle]
        return max(there)[1] if there else 0

    def worth(self, operand):
        return operand[1] if operand[0] == "int" else self.content(operand, self.now)

    def do(self, slot, instruction):
        op, *fields = instruction
        if op == "out":
            self.outputs.append(self.worth(fields[0]))
            return
        if op == "store":
            place, new = ("cell", self.worth(fields[0]) % 16), self.worth(fields[1])
        elif op == "load":
            cell = ("cell", self.worth(fields[1]) % 16)
            place, new = reg(fields[0]), self.content(cell, self.now)
        else:
            a, b = self.worth(fields[1]), self.worth(fields[2])
            new = {"add": a + b, "sub": a - b, "mul": a * b, "and": a & b, "less": int(a < b)}[op]
            place, new = reg(fields[0]), (new + 2 ** 31) % 2 ** 32 - 2 ** 31
        key = (self.now + self.latencies[op], self.now, slot)
        self.arrivals.setdefault(place, []).append((key, new))

    def word(self, instructions):
        for slot, instruction in enumerate(instructions):
            if instruction is not None:
                self.do(slot, instruction)
        self.now += 1

    def wait(self):
        dues = [row[0][0] for rows in self.arrivals.values() for row in rows]
        self.now = max([self.now] + dues)

    def kernel(self, n, rows, stages):
        self.wait()
        turns = min(40, max(0, self.worth(n)))
        interval = len(rows)
        most = max([s for row in stages for s in row if s is not None], default=0)
        for c in range((turns + most) * interval if turns else 0):
            m, k = c // interval, c % interval
            self.word([
                None if stage is None or m - stage not in range(turns) else instruction
                for instruction, stage in zip(rows[k], stages[k])
            ])
        self.wait()

    def run(self, code):
        for segment in code:
            if segment[0] == "words":
                for row in segment[1]:
                    self.word(row)
            else:
                self.kernel(*segment[1:])
        self.wait()
        parts = [
            tuple(self.content((kind, k), self.now) for k in range(16)) for kind in ("reg", "cell")
        ]
        return tuple(self.outputs), *parts, self.now


class SecondTellingTest(unittest.TestCase):
    def random_words(self, source, told, many):
        rows = []
        for _ in range(many):
            rows.append(tuple(
                random_instruction(source, told[0], kinds)
                if kinds and source.random() < 0.7 else None
                for kinds in told[1]
            ))
        return tuple(rows)

    def random_segment(self, source, told):
        if source.random() < 0.5:
            return ("words", self.random_words(source, told, source.randrange(6)))
        rows = self.random_words(source, told, source.randint(1, 4))
        stages = tuple(
            tuple(None if item is None else source.randrange(4) for item in row) for row in rows
        )
        n = source.choice((num(source.randint(-1, 6)), random_operand(source, told[0])))
        return ("kernel", n, rows, stages)

    def test_random_code(self):
        source = random.Random(5)
        for _ in range(1500):
            told = random_machine(source)
            code = tuple(self.random_segment(source, told) for _ in range(source.randrange(5)))
            inputs = random_inputs(source, source.randrange(17))
            self.assertEqual(run_code(told, code, inputs), History(told, inputs).run(code))


if __name__ == "__main__":
    unittest.main()
