"""Tests of runs: points 2 to 6."""

import copy
import inspect
import unittest

from trireme import plain
from trireme.plain import run

LOW = -2147483648
HIGH = 2147483647
OUTPUTS, REGISTERS, CELLS = 0, 1, 2


def reg(k):
    return ("reg", k)


def num(n):
    return ("int", n)


def outputs(*program, inputs=()):
    return run(program, inputs)[OUTPUTS]


def registers(*program, inputs=()):
    return run(program, inputs)[REGISTERS]


def cells(*program, inputs=()):
    return run(program, inputs)[CELLS]


def padded(*numbers):
    return numbers + (0,) * (16 - len(numbers))


class OperationsTest(unittest.TestCase):
    def check(self, op, rows):
        for a, b, result in rows:
            with self.subTest(op=op, a=a, b=b):
                by_integers = registers((op, 3, num(a), num(b)))[3]
                by_registers = registers((op, 3, reg(0), reg(1)), inputs=(a, b))[3]
                self.assertEqual(by_integers, result)
                self.assertEqual(by_registers, result)
                self.assertIs(type(by_integers), int)
                self.assertIs(type(by_registers), int)

    def test_add(self):
        self.check("add", [
            (2, 3, 5), (-2, -3, -5), (0, 0, 0),
            (HIGH - 1, 1, HIGH), (HIGH, 1, LOW), (HIGH, HIGH, -2),
            (LOW + 1, -1, LOW), (LOW, -1, HIGH), (LOW, LOW, 0),
        ])

    def test_sub_is_a_minus_b(self):
        self.check("sub", [
            (7, 3, 4), (3, 7, -4), (0, -5, 5),
            (LOW + 1, 1, LOW), (LOW, 1, HIGH), (LOW, HIGH, 1),
            (HIGH - 1, -1, HIGH), (HIGH, -1, LOW), (0, LOW, LOW), (HIGH, LOW, -1),
        ])

    def test_mul(self):
        self.check("mul", [
            (6, 7, 42), (-6, 7, -42), (-6, -7, 42), (5, 0, 0),
            (65536, 32767, HIGH - 65535), (65536, 32768, LOW), (65536, -32768, LOW),
            (65536, 65536, 0), (65537, 65536, 65536), (-65537, 65536, -65536),
            (HIGH, HIGH, 1), (LOW, -1, LOW), (LOW, LOW, 0), (HIGH, 2, -2),
            (46341, 46341, 46341 * 46341 - 4294967296),
        ])

    def test_and_is_bit_by_bit(self):
        self.check("and", [
            (12, 10, 8), (5, 2, 0), (-1, 7, 7), (-2, 7, 6), (-4, -6, -8),
            (LOW, -1, LOW), (LOW, HIGH, 0), (HIGH, -1, HIGH), (LOW, LOW, LOW),
        ])

    def test_less(self):
        self.check("less", [
            (1, 2, 1), (2, 1, 0), (2, 2, 0), (-1, 1, 1), (1, -1, 0), (-2, -1, 1),
            (LOW, HIGH, 1), (HIGH, LOW, 0), (LOW, LOW, 0), (0, 0, 0),
        ])

    def test_an_operand_may_be_the_target(self):
        self.assertEqual(registers(("add", 0, reg(0), reg(0)), inputs=(21,))[0], 42)
        self.assertEqual(registers(("sub", 1, num(10), reg(1)), inputs=(0, 4))[1], 6)
        self.assertEqual(registers(("mul", 1, reg(1), num(3)), inputs=(0, 4))[1], 12)
        self.assertEqual(registers(("and", 1, reg(1), num(6)), inputs=(0, 4))[1], 4)
        self.assertEqual(registers(("less", 1, reg(1), num(5)), inputs=(0, 4))[1], 1)

    def test_an_instruction_writes_its_target_alone(self):
        self.assertEqual(
            run((("add", 2, reg(0), reg(1)),), (3, 4)),
            ((), padded(3, 4, 7), (0,) * 16),
        )

    def test_one_instruction_reads_what_the_one_before_wrote(self):
        self.assertEqual(
            outputs(("add", 1, num(2), num(3)), ("mul", 1, reg(1), reg(1)), ("out", reg(1))),
            (25,),
        )

    def test_the_last_register(self):
        self.assertEqual(registers(("add", 15, num(1), num(2))), (0,) * 15 + (3,))


class MemoryTest(unittest.TestCase):
    def test_store_and_load(self):
        program = (
            ("store", num(3), num(-8)), ("load", 2, num(3)), ("load", 4, num(4)), ("out", reg(2)),
        )
        self.assertEqual(
            run(program, (5, 6, 7, 8, 9)),
            ((-8,), padded(5, 6, -8, 8, 0), padded(0, 0, 0, -8)),
        )

    def test_addresses_are_taken_modulo_16(self):
        for address, cell in [
            (0, 0), (15, 15), (16, 0), (17, 1), (31, 15), (32, 0), (-1, 15), (-16, 0),
            (-17, 15), (HIGH, 15), (LOW, 0), (LOW + 5, 5),
        ]:
            expected = (0,) * cell + (9,) + (0,) * (15 - cell)
            with self.subTest(address=address):
                self.assertEqual(cells(("store", num(address), num(9))), expected)
                self.assertEqual(
                    cells(("store", reg(1), reg(0)), inputs=(9, address)), expected,
                )
                stored = ("store", num(cell), num(9))
                self.assertEqual(registers(stored, ("load", 2, num(address)))[2], 9)
                self.assertEqual(
                    registers(stored, ("load", 1, reg(1)), inputs=(0, address))[1], 9,
                )

    def test_a_store_changes_no_register_and_a_load_no_cell(self):
        told = run((("store", reg(0), reg(1)), ("load", 3, reg(0))), (2, 7))
        self.assertEqual(told, ((), padded(2, 7, 0, 7), padded(0, 0, 7)))

    def test_a_later_store_stays(self):
        self.assertEqual(cells(("store", num(1), num(5)), ("store", num(17), num(6)))[1], 6)


class OutputsTest(unittest.TestCase):
    def test_outputs_in_order(self):
        self.assertEqual(
            outputs(
                ("out", num(3)), ("out", reg(0)), ("add", 0, reg(0), num(1)),
                ("out", reg(0)), ("out", num(LOW)), ("out", num(3)), inputs=(7,),
            ),
            (3, 7, 8, LOW, 3),
        )

    def test_outputs_of_loops_stand_in_the_order_of_the_run(self):
        body = (("out", reg(0)), ("add", 0, reg(0), num(1)), ("out", num(-1)))
        self.assertEqual(
            outputs(("out", num(9)), ("loop", num(3), body), ("out", reg(0))),
            (9, 0, -1, 1, -1, 2, -1, 3),
        )


class LoopsTest(unittest.TestCase):
    def test_number_of_turns(self):
        body = (("add", 1, reg(1), num(1)),)
        for turns, done in [
            (0, 0), (1, 1), (2, 2), (39, 39), (40, 40), (41, 40), (1000, 40), (HIGH, 40),
            (-1, 0), (-40, 0), (LOW, 0),
        ]:
            with self.subTest(turns=turns):
                self.assertEqual(registers(("loop", num(turns), body))[1], done)
                self.assertEqual(
                    registers(("loop", reg(0), body), inputs=(turns,)), padded(turns, done),
                )

    def test_turns_are_settled_when_the_loop_begins(self):
        count = ("add", 1, reg(1), num(1))
        for change, left in [(num(5), 20), (num(-1), -4), (num(-4), -16)]:
            body = (("add", 0, reg(0), change), count)
            with self.subTest(change=change):
                self.assertEqual(registers(("loop", reg(0), body)), padded())
                told = registers(("loop", reg(0), body), inputs=(4,))
                self.assertEqual(told, padded(4 + left, 4))

    def test_turns_are_those_of_the_moment_not_of_the_inputs(self):
        program = (
            ("add", 0, reg(0), num(2)),
            ("loop", reg(0), (("add", 1, reg(1), num(1)),)),
            ("loop", reg(1), (("add", 2, reg(2), num(1)),)),
        )
        self.assertEqual(registers(*program, inputs=(1,)), padded(3, 3, 3))

    def test_body_does_all_its_instructions_in_order(self):
        body = (
            ("load", 1, reg(0)), ("add", 1, reg(1), num(2)), ("add", 0, reg(0), num(1)),
            ("store", reg(0), reg(1)),
        )
        self.assertEqual(
            run((("loop", num(3), body),), (14,)), ((), padded(17, 6), (4, 6) + (0,) * 13 + (2,)),
        )

    def test_long_programs(self):
        body = (("add", 0, reg(0), num(1)),) * 12
        self.assertEqual(registers(*(("loop", num(40), body),) * 12), padded(12 * 12 * 40))


class RunsTest(unittest.TestCase):
    def test_inputs_begin_the_registers(self):
        for many in range(17):
            inputs = tuple(range(100, 100 + many))
            with self.subTest(many=many):
                self.assertEqual(run((), inputs), ((), padded(*inputs), (0,) * 16))

    def test_empty_program(self):
        self.assertEqual(run((), ()), ((), (0,) * 16, (0,) * 16))

    def test_bounds_as_inputs(self):
        told = run((("out", reg(0)), ("out", reg(1))), (LOW, HIGH))
        self.assertEqual(told, ((LOW, HIGH), padded(LOW, HIGH), (0,) * 16))

    def test_kinds_of_what_is_returned(self):
        program = (
            ("less", 0, num(1), num(2)), ("less", 1, num(2), num(1)), ("out", reg(0)),
            ("out", reg(1)), ("store", num(0), reg(0)), ("store", num(1), reg(1)),
            ("loop", reg(0), (("less", 2, reg(1), reg(0)), ("out", reg(2)))),
        )
        told = run(program, ())
        self.assertEqual(told, ((1, 0, 1), padded(1, 0, 1), padded(1)))
        self.assertIs(type(told), tuple)
        self.assertEqual([len(part) for part in told], [3, 16, 16])
        for part in told:
            self.assertIs(type(part), tuple)
            self.assertEqual({type(number) for number in part}, {int})

    def test_no_error_somewhat_beyond_the_limits(self):
        program = (("add", 16, reg(17), num(5)), ("out", reg(16))) * 7
        self.assertEqual(run(program, ()), ((5,) * 7, (0,) * 16, (0,) * 16))
        self.assertEqual(run((("out", reg(16)),), tuple(range(17))), (
            (16,), tuple(range(16)), (0,) * 16,
        ))
        long_body = (("add", 0, reg(0), num(1)),) * 13
        self.assertEqual(registers(("loop", num(2), long_body)), padded(26))
        self.assertEqual(registers(("add", 0, num(HIGH + 1), num(0))), padded(LOW))
        self.assertEqual(registers(("loop", num(HIGH + 1), (("add", 0, reg(0), num(1)),))), padded(40))

    def test_arguments_stay_and_answers_repeat(self):
        program = (
            ("add", 0, reg(0), num(1)), ("store", reg(0), num(5)),
            ("loop", reg(0), (("out", reg(0)), ("sub", 0, reg(0), num(1)))),
        )
        inputs = (2, 3)
        before = copy.deepcopy((program, inputs))
        first = run(program, inputs)
        self.assertEqual((program, inputs), before)
        run((("store", num(2), num(9)), ("out", num(1)), ("add", 9, num(1), num(1))), (8, 8, 8))
        self.assertEqual(run(program, inputs), first)
        self.assertEqual(first, ((3, 2, 1), padded(0, 3), padded(0, 0, 0, 5)))

    def test_interface(self):
        self.assertEqual(run.__module__, "trireme.plain")
        self.assertIs(plain.run, run)
        self.assertEqual(list(inspect.signature(run).parameters), ["program", "inputs"])


if __name__ == "__main__":
    unittest.main()
