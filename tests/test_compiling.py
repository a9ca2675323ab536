"""Tests of blocks, code and cycles, and of the whole compiler: points 2, 12, 17, 19, 21 and 22."""

import copy
import inspect
import random
import time
import unittest

from helpers import (
    KINDS, is_data, machine, num, random_block, random_inputs, random_machine, random_operand, reg,
    sparse_machine,
)
from maker import Maker
from trireme import compiling
from trireme.compiling import assemble, blocks, compile_program, cycles
from trireme.errors import LimitError, TriremeError
from trireme.judge import is_pipeline, is_schedule
from trireme.machines import run_code
from trireme.pipelining import pipeline
from trireme.plain import run
from trireme.scheduling import schedule
from trireme.texts import parse, print_program

ONE = machine()
TWO = machine(slots=2, mul=4, add=2, store=6)
NINE = machine(usual=9)

ADD = ("add", 1, reg(1), num(1))
MUL = ("mul", 2, reg(1), num(3))
OUT = ("out", reg(2))
STORE = ("store", num(3), reg(1))
LOOP = ("loop", num(3), (ADD, OUT))
OTHER = ("loop", reg(1), (MUL,))


def turns_of(program, inputs):
    """The number of turns of each loop, by runs of what stands before it."""
    turns = []
    for k, statement in enumerate(program):
        if statement[0] == "loop":
            kind, number = statement[1]
            if kind == "reg":
                number = run(program[:k], inputs)[1][number]
            turns.append(min(40, max(0, number)))
    return tuple(turns)


def plans_by(program, plan_block, plan_body):
    """Plans for all blocks and loops of a program."""
    return tuple(
        plan_block(part[1]) if part[0] == "block" else plan_body(part[2]) for part in blocks(program)
    )


def own_plans(told, program):
    """The plans that the program makes itself."""
    return plans_by(
        program, lambda block: schedule(told, block)[0], lambda body: pipeline(told, body)[:2],
    )


def random_program(source, registers, most=12, body=6):
    """A program of any row of blocks and loops."""
    program = []
    for _ in range(source.randint(0, most)):
        if source.random() < 0.5:
            program.extend(random_block(source, registers, 1))
        else:
            count = num(source.choice((-7, -1, 0, 1, 2, 3, 5, 39, 40, 41, 2147483647)))
            n = source.choice((count, reg(source.randrange(registers))))
            program.append(("loop", n, random_block(source, registers, source.randint(1, body))))
    return tuple(program)


class CompilingTest(unittest.TestCase):
    def check_code(self, told, program, plans, inputs):
        """Check that code does what the program does, in the cycles that are told."""
        code = assemble(told, program, plans)
        self.assertTrue(is_data(code))
        answer = run_code(told, code, inputs)
        self.assertEqual(answer[:3], run(program, inputs), (told, program, plans, inputs))
        turns = turns_of(program, inputs)
        self.assertEqual(cycles(told, program, plans, turns), answer[3], (told, program, plans, turns))

    def check_compiled(self, told, program, inputs):
        """Check the code that is compiled, by the plans that are made."""
        code = compile_program(told, program)
        plans = own_plans(told, program)
        self.assertEqual(code, assemble(told, program, plans))
        self.check_code(told, program, plans, inputs)


class BlocksTest(unittest.TestCase):
    def check(self, program, *parts):
        self.assertEqual(blocks(program), parts)
        self.assertTrue(is_data(blocks(program)))

    def test_no_statement(self):
        self.check(())

    def test_one_block(self):
        self.check((ADD,), ("block", (ADD,)))
        self.check((ADD, MUL, OUT), ("block", (ADD, MUL, OUT)))

    def test_loops(self):
        self.check((LOOP,), LOOP)
        self.check((LOOP, OTHER, LOOP), LOOP, OTHER, LOOP)

    def test_blocks_before_between_and_behind_loops(self):
        self.check((ADD, LOOP), ("block", (ADD,)), LOOP)
        self.check((LOOP, ADD), LOOP, ("block", (ADD,)))
        self.check((ADD, LOOP, OUT, MUL), ("block", (ADD,)), LOOP, ("block", (OUT, MUL)))
        self.check(
            (ADD, ADD, LOOP, OTHER, MUL, LOOP),
            ("block", (ADD, ADD)), LOOP, OTHER, ("block", (MUL,)), LOOP,
        )


class AssembleTest(unittest.TestCase):
    def check(self, told, program, plans, *code):
        self.assertEqual(assemble(told, program, plans), code)
        self.assertTrue(is_data(assemble(told, program, plans)))

    def test_no_statement(self):
        self.check(ONE, (), ())
        self.assertEqual(compile_program(ONE, ()), ())
        self.assertEqual(run_code(ONE, (), (7,)), ((), (7,) + (0,) * 15, (0,) * 16, 0))

    def test_a_schedule_becomes_words(self):
        nothing = (None, None)
        self.check(
            TWO, (ADD, MUL, OUT), (((0, 1), (2, 0), (6, 1)),),
            ("words", ((None, ADD), nothing, (MUL, None), nothing, nothing, nothing, (None, OUT))),
        )
        self.check(TWO, (ADD, STORE), (((0, 1), (2, 1)),), ("words", ((None, ADD), nothing, (None, STORE))))

    def test_two_instructions_in_one_word(self):
        self.check(TWO, (ADD, OUT), (((0, 1), (0, 0)),), ("words", ((OUT, ADD),)))

    def test_a_loose_schedule(self):
        self.check(ONE, (ADD,), (((2, 0),),), ("words", ((None,), (None,), (ADD,))))

    def test_a_pipeline_becomes_a_kernel(self):
        body = (ADD, MUL, OUT)
        program = (("loop", reg(4), body),)
        self.check(
            TWO, program, ((2, ((0, 0), (3, 1), (7, 0))),),
            ("kernel", reg(4), ((ADD, None), (OUT, MUL)), ((0, None), (3, 1))),
        )
        # All stages count from the cycle 0, and the interval may be larger than the schedule.
        self.check(
            TWO, program, ((3, ((6, 0), (8, 1), (14, 0))),),
            ("kernel", reg(4), ((ADD, None), (None, None), (OUT, MUL)), ((2, None), (None, None), (4, 2))),
        )
        self.check(
            ONE, (("loop", num(-5), (ADD,)),), ((3, ((1, 0),)),),
            ("kernel", num(-5), ((None,), (ADD,), (None,)), ((None,), (0,), (None,))),
        )

    def test_all_parts_in_order(self):
        self.check(
            ONE, (ADD, LOOP, OTHER, OUT), (((0, 0),), (2, ((0, 0), (1, 0))), (1, ((0, 0),)), ((1, 0),)),
            ("words", ((ADD,),)), ("kernel", num(3), ((ADD,), (OUT,)), ((0,), (0,))),
            ("kernel", reg(1), ((MUL,),), ((0,),)), ("words", ((None,), (OUT,))),
        )

    def test_registers_that_are_not_there_do_not_matter(self):
        told = machine(registers=1)
        program = (ADD, LOOP)
        plans = own_plans(told, program)
        self.assertEqual(len(assemble(told, program, plans)), 2)
        self.assertGreater(cycles(told, program, plans, (3,)), 0)


class CyclesTest(CompilingTest):
    def check(self, count, told, program, plans, turns):
        self.assertEqual(cycles(told, program, plans, turns), count)
        self.assertEqual(run_code(told, assemble(told, program, plans), ())[3], count)

    def test_no_statement(self):
        self.check(0, NINE, (), (), ())

    def test_results_that_arrive_behind_the_end(self):
        self.check(9, NINE, (ADD,), (((0, 0),),), ())
        self.check(12, NINE, (ADD,), (((3, 0),),), ())
        self.check(10, NINE, (ADD, STORE), (((0, 0), (1, 0)),), ())
        # The latest result is not that of the last instruction.
        self.check(9, machine(mul=9), (MUL, ADD), (((0, 0), (1, 0)),), ())

    def test_an_output_makes_nothing_wait(self):
        self.check(1, NINE, (OUT,), (((0, 0),),), ())
        self.check(3, NINE, (OUT,), (((2, 0),),), ())
        self.check(9, NINE, (ADD, OUT), (((0, 0), (8, 0)),), ())
        loop = ("loop", num(3), (OUT,))
        self.check(6, NINE, (loop,), ((2, ((1, 0),)),), (3,))

    def test_the_machine_waits_before_a_kernel(self):
        for n in range(4):
            loop = ("loop", num(n), (OUT,))
            # The add's result is due in cycle 9.
            self.check(9 + n, NINE, (ADD, loop), (((0, 0),), (1, ((0, 0),))), (n,))
            self.check(12 + n, NINE, (ADD, loop), (((3, 0),), (1, ((0, 0),))), (n,))
            self.check(1 + n, ONE, (ADD, loop), (((0, 0),), (1, ((0, 0),))), (n,))

    def test_the_machine_waits_behind_a_kernel(self):
        for n, count in ((0, 0), (1, 9), (2, 18), (40, 9 * 40)):
            loop = ("loop", num(n), (ADD,))
            self.check(count, NINE, (loop,), ((9, ((0, 0),)),), (n,))
            # The block behind the kernel begins when all results have arrived.
            self.check(count + 1, NINE, (loop, OUT), ((9, ((0, 0),)), ((0, 0),)), (n,))
        for n, count in ((0, 0), (1, 9), (2, 10), (9, 17), (40, 48)):
            loop = ("loop", num(n), (("add", 1, num(1), num(2)),))
            self.check(count, NINE, (loop,), ((1, ((0, 0),)),), (n,))
            self.check(2 * count, NINE, (loop, loop), ((1, ((0, 0),)),) * 2, (n, n))

    def test_stages(self):
        # The greatest stage is 4, the interval 2.
        body = (ADD, MUL, OUT)
        plan = (2, ((0, 0), (3, 1), (9, 0)))
        for n in range(41):
            count = 0 if n == 0 else (n + 4) * 2
            self.check(count, TWO, (("loop", num(n), body),), (plan,), (n,))

    def test_results_of_the_last_turn_may_be_the_latest(self):
        # The mul of the last turn ends with the kernel; its result is due 8 cycles later.
        told = machine(slots=2, mul=9)
        body = (ADD, ("mul", 2, num(2), num(3)))
        for n in range(1, 5):
            self.check(n + 8, told, (("loop", num(n), body),), ((1, ((0, 0), (0, 1))),), (n,))

    def test_blocks_do_not_wait_within(self):
        self.check(4, NINE, (OUT, OUT), (((0, 0), (3, 0)),), ())

    def test_turns_are_taken_in_order(self):
        program = (("loop", num(2), (OUT,)), OUT, ("loop", num(5), (OUT,)))
        plans = ((1, ((0, 0),)), ((0, 0),), (3, ((0, 0),)))
        self.check(2 + 1 + 15, ONE, program, plans, (2, 5))
        self.assertEqual(cycles(ONE, program, plans, (5, 2)), 5 + 1 + 6)
        self.assertEqual(cycles(ONE, program, plans, (0, 0)), 1)


class AllTurnsTest(CompilingTest):
    def test_0_to_40_turns_and_others(self):
        source = random.Random(1)
        for n in list(range(-3, 44)) + [-2147483648, 2147483647]:
            for _ in range(4):
                told = random_machine(source)
                body = random_block(source, told[0], source.randint(1, 6))
                block = random_block(source, told[0], source.randint(1, 3))
                inputs = (n,) + random_inputs(source, told[0])[1:]
                for count in (num(n), reg(0)):
                    program = (("loop", count, body),)
                    self.check_compiled(told, program, inputs)
                    self.check_compiled(told, program + block, inputs)

    def test_numbers_of_turns_that_a_block_ahead_writes(self):
        for n in (-5, 0, 1, 2, 39, 40, 41, 1000):
            for told in (ONE, TWO, NINE, machine(slots=6, usual=9)):
                for ahead in (
                    (("add", 1, reg(0), num(0)),), (("mul", 1, reg(0), num(1)), OUT),
                    (("store", num(3), reg(0)), ("load", 1, num(19))),
                ):
                    loop = ("loop", reg(1), (("add", 2, reg(2), num(1)), ("out", reg(2))))
                    self.check_compiled(told, ahead + (loop,), (n,))
                    self.check_compiled(told, (loop,) + ahead + (loop, loop), (n, 2))

    def test_a_loop_that_changes_its_own_number_of_turns(self):
        for told in (ONE, TWO, NINE):
            for n in (-1, 0, 1, 5, 40, 50):
                loop = ("loop", reg(1), (("sub", 1, reg(1), num(3)), ("out", reg(1))))
                self.check_compiled(told, (loop, loop, ("out", reg(1))), (0, n))


class RandomProgramsTest(CompilingTest):
    def test_compiled_programs(self):
        source = random.Random(2)
        for k in range(400):
            told = random_machine(source) if k % 2 else sparse_machine(source)
            program = random_program(source, told[0])
            self.check_compiled(told, program, random_inputs(source, source.randrange(17)))

    def test_loops_at_all_places(self):
        source = random.Random(3)
        for _ in range(30):
            told = random_machine(source)
            loop = ("loop", random_operand(source, told[0]), random_block(source, told[0], 3))
            block = random_block(source, told[0], 3)
            for program in (
                (loop,), block, loop_between(block, loop), (loop,) + block, block + (loop,),
                (loop, loop), (loop, loop) + block, (loop,) + block + (loop,), block + (loop, loop) + block,
            ):
                self.check_compiled(told, program, random_inputs(source, 16))

    def test_all_right_plans(self):
        source = random.Random(4)
        for _ in range(300):
            told = random_machine(source)
            maker = Maker(source, told)
            program = random_program(source, told[0], most=7, body=4)
            plans = plans_by(program, maker.schedule, maker.pipeline)
            self.check_code(told, program, plans, random_inputs(source, 16))

    def test_loose_plans(self):
        source = random.Random(5)
        most = 0
        for _ in range(300):
            told = random_machine(source)
            program = random_program(source, told[0], most=7, body=4)
            plans = plans_by(
                program, lambda block: loose_schedule(source, told, block),
                lambda body: loose_pipeline(source, told, body),
            )
            self.check_code(told, program, plans, random_inputs(source, 16))
            for part, plan in zip(blocks(program), plans):
                if part[0] == "loop":
                    most = max([most] + [cycle // plan[0] for cycle, _ in plan[1]])
        self.assertGreater(most, 20)

    def test_texts(self):
        source = random.Random(6)
        for _ in range(60):
            told = random_machine(source)
            program = parse(print_program(random_program(source, told[0], most=5)))
            self.check_compiled(told, program, random_inputs(source, 16))


def loop_between(block, loop):
    return block[:1] + (loop,) + block[1:]


def loose_schedule(source, told, block):
    """A right schedule in which any instruction may be late."""
    places = schedule(told, block)[0]
    for _ in range(30):
        k = source.randrange(len(block))
        later = places[k][0] + source.choice((1, 2, 9, 40))
        changed = places[:k] + ((later, places[k][1]),) + places[k + 1:]
        if later < 200 and is_schedule(told, block, changed):
            places = changed
    return places


def loose_pipeline(source, told, body):
    """A right pipeline in which any instruction may be late, by many stages too."""
    interval, places, _ = pipeline(told, body)
    larger = interval + source.randrange(4)
    if is_pipeline(told, body, larger, places):
        interval = larger
    for _ in range(30):
        k = source.randrange(len(body))
        later = places[k][0] + source.choice((1, 2, interval, 7 * interval))
        changed = places[:k] + ((later, places[k][1]),) + places[k + 1:]
        if later < 200 and is_pipeline(told, body, interval, changed):
            places = changed
    return interval, places


class LimitErrorTest(unittest.TestCase):
    # Where the register k stands in each place where one may stand.
    PLACES = tuple(
        place
        for op in ("add", "sub", "mul", "and", "less")
        for place in (
            lambda k, op=op: (op, k, num(1), num(99)),
            lambda k, op=op: (op, 0, reg(k), num(99)),
            lambda k, op=op: (op, 0, num(99), reg(k)),
        )
    ) + (
        lambda k: ("load", k, num(99)), lambda k: ("load", 0, reg(k)),
        lambda k: ("store", reg(k), num(99)), lambda k: ("store", num(99), reg(k)),
        lambda k: ("out", reg(k)),
    )

    def check(self, many, k, program):
        told = machine(registers=many)
        with self.subTest(registers=many, program=program):
            if k >= many:
                with self.assertRaises(LimitError) as caught:
                    compile_program(told, program)
                self.assertIsInstance(caught.exception, TriremeError)
            else:
                self.assertIs(type(compile_program(told, program)), tuple)

    def test_each_place_of_an_instruction(self):
        for many in (1, 2, 7, 15, 16):
            for k in sorted({0, many - 1, many, min(15, many + 5), 15}):
                for place in self.PLACES:
                    plain = ("out", num(1))
                    self.check(many, k, (place(k),))
                    self.check(many, k, (plain, place(k), plain))
                    self.check(many, k, (("loop", num(0), (plain, place(k))),))
                    self.check(many, k, (plain, ("loop", num(2), (place(k), plain)), plain))

    def test_the_number_of_turns(self):
        for many in range(1, 17):
            for k in range(17):
                body = (("out", num(1)),)
                self.check(many, k, (("loop", reg(k), body),))
                self.check(many, k, (("loop", num(99), body), ("out", num(99)), ("loop", reg(k), body)))

    def test_integers_are_no_registers(self):
        told = machine(registers=1)
        for n in (0, 1, 15, 16, -1, 2147483647):
            program = (
                ("add", 0, num(n), num(n)), ("load", 0, num(n)), ("store", num(n), num(n)),
                ("out", num(n)), ("loop", num(n), (("sub", 0, num(n), num(n)),)),
            )
            self.assertEqual(len(compile_program(told, program)), 2)


class LargestProgramsTest(CompilingTest):
    MACHINES = (
        ONE, NINE, machine(slots=6), machine(slots=6, usual=9), machine(slots=3, mul=9, load=7, store=5),
        machine(slots=(KINDS, (), ("mul",), (), ("load", "store"), ()), mul=9, and_=4),
    )

    def test_12_loops_of_12_instructions(self):
        source = random.Random(7)
        begun = time.perf_counter()
        for told in self.MACHINES:
            program = tuple(
                ("loop", source.choice((num(40), reg(3), num(3))), random_block(source, registers, 12))
                for registers in (1, 2, 3, 4, 6, 8, 10, 12, 14, 16, 16, 16)
            )
            self.check_compiled(told, program, (0, 0, 0, 17))
        self.assertLess(time.perf_counter() - begun, 60)

    def test_12_instructions_in_a_block(self):
        source = random.Random(8)
        begun = time.perf_counter()
        for told in self.MACHINES:
            for registers in (1, 2, 4, 8, 16):
                self.check_compiled(told, random_block(source, registers, 12), random_inputs(source, 16))
        self.assertLess(time.perf_counter() - begun, 30)

    def test_a_text_of_4000_characters(self):
        rows = "add r1 r2 -5\nmul r2 r1 r3\nstore r2 r1\nload r3 r1\nless r4 r3 1\nand r5 r4 r3\n" * 2
        text = ("loop 40\n" + rows + "end\n") * 12
        text += "#" * (4000 - len(text))
        self.assertEqual(len(text), 4000)
        self.check_compiled(TWO, parse(text), (1, 2, 3))

    def test_no_error_somewhat_beyond_the_limits(self):
        source = random.Random(9)
        told = machine(slots=7, usual=3)
        program = random_block(source, 16, 14) + (("loop", num(41), random_block(source, 16, 14)),) * 2
        self.check_compiled(told, program, random_inputs(source, 16))
        self.assertEqual(
            cycles(ONE, (LOOP,), ((2, ((0, 0), (1, 0))),), (41,)),
            cycles(ONE, (LOOP,), ((2, ((0, 0), (1, 0))),), (40,)),
        )


class InterfaceTest(unittest.TestCase):
    def test_arguments_stay_and_answers_repeat(self):
        source = random.Random(10)
        program = random_program(source, 4) + (ADD, LOOP, OUT)
        plans = own_plans(TWO, program)
        turns = tuple(3 for statement in program if statement[0] == "loop")
        calls = [
            (blocks, (program,)), (assemble, (TWO, program, plans)),
            (compile_program, (TWO, program)), (cycles, (TWO, program, plans, turns)),
        ]
        before = copy.deepcopy([arguments for _, arguments in calls])
        answers = [function(*arguments) for function, arguments in calls]
        compile_program(NINE, program[::-1])
        again = [function(*arguments) for function, arguments in calls[::-1]]
        self.assertEqual(again[::-1], answers)
        self.assertEqual([arguments for _, arguments in calls], before)
        self.assertIs(type(answers[3]), int)

    def test_interface(self):
        for name, arguments in [
            ("blocks", ["program"]),
            ("assemble", ["machine", "program", "plans"]),
            ("compile_program", ["machine", "program"]),
            ("cycles", ["machine", "program", "plans", "turns"]),
        ]:
            function = getattr(compiling, name)
            self.assertEqual(function.__module__, "trireme.compiling")
            self.assertEqual(list(inspect.signature(function).parameters), arguments)


if __name__ == "__main__":
    unittest.main()
