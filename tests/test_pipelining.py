"""Tests of the pipelines that are made: points 2, 14, 16, 18 and 20."""

import copy
import inspect
import itertools
import random
import time
import unittest

from helpers import (
    KINDS, MACHINES, NINE, ONE, SIX, SIX_OF_NINE, better_machine, bound, fits, is_data, machine, num,
    random_block, random_machine, reg, renamed, sparse_block, sparse_machine,
)
from trireme import pipelining
from trireme.judge import is_loop_reason, is_pipeline
from trireme.machines import is_machine
from trireme.needs import loop_needs
from trireme.pipelining import pipeline


class PlainSearch:
    """Tells whether there is a right pipeline of an interval, by trying all cycles modulo it."""

    def __init__(self, told, body):
        self.slots = told[1]
        self.kinds = [instruction[0] for instruction in body]
        self.wanted = loop_needs(told, body)

    def finds(self, interval):
        many = len(self.kinds)
        if interval < 1 or not self.can_meet([(a, b, w - d * interval) for a, b, w, d in self.wanted]):
            return False
        # All may be put off together, so that the first one has the cycle 0.
        for rest in itertools.product(range(interval), repeat=max(0, many - 1)):
            if self.is_right(interval, (0,) + rest):
                return True
        return many == 0

    def is_right(self, interval, folded):
        for cycle in set(folded):
            same = tuple(sorted(kind for kind, other in zip(self.kinds, folded) if other == cycle))
            if not fits(self.slots, same):
                return False
        # How many whole intervals are between two instructions at least.
        return self.can_meet([
            (a, b, -((d * interval - w + folded[b] - folded[a]) // interval))
            for a, b, w, d in self.wanted
        ])

    def can_meet(self, steps):
        """Whether there are numbers with b at least a plus w for all steps (a, b, w)."""
        numbers = [0] * len(self.kinds)
        for _ in range(len(numbers) + 1):
            late = [(a, b, w) for a, b, w in steps if numbers[b] < numbers[a] + w]
            if not late:
                return True
            for a, b, w in late:
                numbers[b] = max(numbers[b], numbers[a] + w)
        return False


class PipelineTest(unittest.TestCase):
    def check(self, told, body):
        """Check all that point 20 promises of one pipeline; return its interval."""
        with self.subTest(machine=told, body=body):
            answer = pipeline(told, body)
            self.assertTrue(is_data(answer), answer)
            self.assertEqual(len(answer), 3)
            interval, places, reason = answer
            self.assertIs(is_pipeline(told, body, interval, places), True)
            if body:
                self.assertLessEqual(interval, bound(told, body))
            last = max((cycle + 1 for cycle, _ in places), default=0)
            self.assertLessEqual(last, len(body) * (interval + 9))
            if reason is not None:
                self.assertIs(is_loop_reason(told, body, reason), True)
                self.assertEqual(reason[-1], interval)
            return interval

    def check_least(self, told, body):
        """Check a pipeline, and that a plain search finds none with a smaller interval."""
        interval = self.check(told, body)
        search = PlainSearch(told, body)
        self.assertTrue(search.finds(interval), (told, body))
        for smaller in range(1, interval):
            self.assertFalse(search.finds(smaller), (told, body, smaller))
        return interval


class KnownIntervalsTest(PipelineTest):
    def least(self, interval, told, *body):
        self.assertEqual(self.check_least(told, body), interval, body)

    def test_empty_body(self):
        for told in MACHINES:
            self.assertEqual(pipeline(told, ())[:2], (1, ()))
            self.check(told, ())

    def test_one_instruction(self):
        for told in MACHINES:
            for body in (
                ("mul", 1, reg(2), reg(3)), ("out", num(1)), ("store", reg(1), reg(1)),
                ("store", num(3), num(1)), ("load", 0, num(5)), ("add", 1, num(1), num(2)),
            ):
                self.least(1, told, body)

    def test_an_instruction_that_needs_itself(self):
        body = ("add", 1, reg(1), num(1))
        self.least(1, SIX, body)
        self.least(9, NINE, body)
        self.least(4, machine(slots=3, add=4), body)

    def test_turns_overlap(self):
        # Each takes long, but no turn needs a result of the turn before.
        body = (("load", 1, num(5)), ("mul", 3, reg(1), reg(1)), ("store", num(4), reg(3)))
        self.least(1, SIX, *body)
        self.least(1, SIX_OF_NINE, *body)
        self.least(3, NINE, *body)

    def test_a_ring_of_two(self):
        body = (("mul", 1, reg(2), num(3)), ("add", 2, reg(1), num(1)))
        self.least(5, machine(slots=2, mul=4), *body)
        self.least(18, NINE, *body)

    def test_a_register_is_read_before_the_next_turn_writes_it(self):
        # The last one reads r1 at least 10 cycles behind the first one, whose
        # result in the next turn must not arrive before that.
        body = (("add", 1, num(1), num(2)), ("mul", 2, reg(1), num(3)), ("sub", 3, reg(2), reg(1)))
        self.least(10, machine(slots=3, mul=9), *body)

    def test_outputs(self):
        self.least(1, SIX, ("out", num(1)))
        self.least(2, SIX, ("out", num(1)), ("out", num(2)))
        self.least(3, NINE, ("out", num(1)), ("out", num(2)), ("out", reg(1)))

    def test_memory(self):
        told = machine(slots=2, load=2, store=6)
        self.least(8, told, ("load", 1, reg(2)), ("store", reg(2), reg(1)))
        self.least(8, told, ("load", 1, num(4)), ("store", num(20), reg(1)))
        self.least(1, told, ("load", 1, num(3)), ("store", num(20), reg(1)))
        # Here the store may go 5 cycles ahead of the load.
        self.least(1, told, ("load", 1, reg(2)), ("store", reg(2), num(1)))

    def test_slots_that_can_do_a_kind(self):
        free = [("add", k, num(1), num(2)) for k in range(4)]
        self.least(4, ONE, *free)
        self.least(1, SIX, *free)
        self.least(2, machine(slots=(KINDS, (), ("add", "mul"), ())), *free)
        self.least(4, machine(slots=(KINDS, (), ("mul",), ("and",))), *free)

    def test_where_no_reason_tells_the_interval(self):
        # With the interval 2 the second one would be just 2 cycles behind the
        # first one, in the same slot.
        body = (("and", 3, reg(2), reg(0)), ("sub", 3, num(2), reg(1)))
        self.least(3, machine(and_=2), *body)
        self.assertIs(pipeline(machine(and_=2), body)[2], None)
        self.least(2, machine(slots=2, and_=2), *body)


class LeastIntervalsTest(PipelineTest):
    def test_up_to_4_instructions(self):
        source = random.Random(1)
        for k in range(400):
            told = random_machine(source) if k % 2 else sparse_machine(source)
            registers = source.choice((told[0], 16))
            self.check_least(told, random_block(source, registers, source.randint(1, 4)))

    def test_sparse_bodies_of_4_instructions(self):
        source = random.Random(2)
        without = 0
        for _ in range(600):
            told = sparse_machine(source)
            body = sparse_block(source, 4)
            self.check_least(told, body)
            without += pipeline(told, body)[2] is None
        # In these cases nothing but the search tells that none is smaller.
        self.assertGreater(without, 3)

    def test_short_bodies_by_trying_all_places(self):
        source = random.Random(3)
        for _ in range(60):
            told = random_machine(source)
            told = (told[0], told[1][:3], tuple((kind, n % 3 + 1) for kind, n in told[2]))
            if not is_machine(told):
                continue
            body = random_block(source, told[0], 2)
            interval = self.check(told, body)
            for smaller in range(-1, interval):
                places = list(itertools.product(range(12), range(len(told[1]))))
                for chosen in itertools.product(places, repeat=2):
                    self.assertIs(is_pipeline(told, body, smaller, chosen), False)

    def test_other_names_and_another_order_of_slots(self):
        source = random.Random(4)
        for _ in range(200):
            told = sparse_machine(source)
            body = sparse_block(source, source.randint(1, 4))
            interval = self.check(told, body)
            names = source.sample(range(16), 16)
            slots = tuple(source.sample(told[1], len(told[1])))
            other = (told[0], slots, told[2])
            self.assertEqual(self.check(other, renamed(body, names)), interval)

    def test_a_better_machine_is_not_slower(self):
        source = random.Random(5)
        for _ in range(200):
            told = sparse_machine(source)
            body = sparse_block(source, source.randint(1, 4))
            better = better_machine(source, told)
            self.assertLessEqual(self.check(better, body), self.check(told, body))


class LongBodiesTest(PipelineTest):
    def test_0_to_12_instructions(self):
        source = random.Random(6)
        for many in range(13):
            for told in MACHINES:
                self.check(told, random_block(source, 16, many))
                self.check(told, random_block(source, 2, many))
            for _ in range(40):
                self.check(random_machine(source), random_block(source, 4, many))
                self.check(sparse_machine(source), sparse_block(source, many))

    def test_one_behind_the_other(self):
        for many in range(1, 13):
            row = tuple(("add", 1, reg(1), num(1)) for _ in range(many))
            self.assertEqual(self.check(NINE, row), 9 * many)
            self.assertEqual(self.check(SIX, row), many)

    def test_all_at_once(self):
        for many in range(1, 13):
            free = tuple(("add", k, num(1), num(2)) for k in range(many))
            self.assertEqual(self.check(SIX, free), (many + 5) // 6)
            self.assertEqual(self.check(NINE, free), many)

    def test_many_stages(self):
        # A register's next content arrives one cycle behind the last one.
        row = tuple(("add", k + 1, reg(k), num(1)) for k in range(6))
        interval, places, _ = pipeline(SIX_OF_NINE, row)
        self.assertEqual(interval, 1)
        self.assertGreaterEqual(max(cycle for cycle, _ in places), 45)

    def test_no_error_somewhat_beyond_the_limits(self):
        source = random.Random(7)
        for many in (13, 14, 16):
            self.check(machine(slots=8), sparse_block(source, many))
            self.check(machine(slots=1, usual=9), sparse_block(source, many))
            self.check(machine(registers=1), random_block(source, 18, many))

    def test_registers_that_are_not_there_do_not_matter(self):
        self.check(machine(registers=1), (("add", 15, reg(14), num(1)), ("out", reg(15))))

    def test_the_largest_are_answered_in_seconds(self):
        source = random.Random(8)
        hard = (
            ("add", 1, reg(1), num(-1)), ("mul", 2, reg(2), num(-1)), ("add", 2, num(2), reg(0)),
            ("sub", 0, reg(3), num(-1)), ("store", num(-1), reg(1)), ("load", 4, reg(4)),
            ("and", 1, num(3), reg(5)), ("store", num(2), reg(1)), ("load", 6, reg(7)),
            ("mul", 6, reg(1), reg(4)), ("out", reg(6)), ("less", 7, reg(0), reg(2)),
        )
        begun = time.perf_counter()
        for told in MACHINES + (machine(add=1, and_=2, less=2, load=3, mul=8, out=9, store=9, sub=3),):
            self.check(told, hard)
            self.check(told, hard[::-1])
            for _ in range(10):
                self.check(told, sparse_block(source, 12))
        self.assertLess(time.perf_counter() - begun, 30)


class ReasonsTest(PipelineTest):
    def test_no_interval_is_less_than_a_true_reason_says(self):
        source = random.Random(9)
        for _ in range(40):
            told = random_machine(source)
            body = random_block(source, told[0], source.randint(1, 4))
            interval = pipeline(told, body)[0]
            kinds = sorted({instruction[0] for instruction in body})
            guesses = []
            for number in range(interval + 1, interval + 10):
                for many in range(1, len(kinds) + 1):
                    for chosen in itertools.combinations(kinds, many):
                        guesses.append(("busy", chosen, number))
                for many in range(1, 4):
                    for ring in itertools.permutations(range(len(body)), many):
                        for distances in itertools.product((0, 1), repeat=many):
                            guesses.append(("ring", ring, distances, number))
            for guess in guesses:
                self.assertIs(is_loop_reason(told, body, guess), False, (told, body, guess))

    def test_what_breaks_a_need_is_not_right(self):
        source = random.Random(10)
        for _ in range(150):
            told = random_machine(source)
            body = random_block(source, told[0], source.randint(2, 8))
            interval, places, _ = pipeline(told, body)
            for a, b, w, distance in loop_needs(told, body):
                early = places[a][0] + w - distance * interval - 1
                if early >= 0 and a != b:
                    wrong = places[:b] + ((early, places[b][1]),) + places[b + 1:]
                    self.assertIs(is_pipeline(told, body, interval, wrong), False)

    def test_the_same_later_is_right_as_well(self):
        source = random.Random(11)
        for _ in range(50):
            told = random_machine(source)
            body = random_block(source, told[0], source.randint(1, 12))
            interval, places, _ = pipeline(told, body)
            late = tuple((cycle + 7, slot) for cycle, slot in places)
            self.assertIs(is_pipeline(told, body, interval, late), True)


class InterfaceTest(unittest.TestCase):
    def test_arguments_stay_and_answers_repeat(self):
        source = random.Random(12)
        calls = [(sparse_machine(source), sparse_block(source, many)) for many in range(13)]
        before = copy.deepcopy(calls)
        answers = [pipeline(*arguments) for arguments in calls]
        self.assertEqual([pipeline(*arguments) for arguments in calls[::-1]], answers[::-1])
        self.assertEqual(calls, before)

    def test_interface(self):
        self.assertEqual(pipeline.__module__, "trireme.pipelining")
        self.assertIs(pipelining.pipeline, pipeline)
        self.assertEqual(list(inspect.signature(pipeline).parameters), ["machine", "body"])


if __name__ == "__main__":
    unittest.main()
