"""Tests of the schedules that are made: points 2, 13, 15, 18 and 20."""

import copy
import inspect
import itertools
import random
import time
import unittest

from helpers import (
    KINDS, MACHINES, NINE, ONE, SIX, SIX_OF_NINE, better_machine, bound, fits, is_data, machine, num,
    random_block, random_machine, reg, renamed, sparse_block, sparse_machine,
)
from trireme import scheduling
from trireme.judge import is_reason, is_schedule
from trireme.machines import is_machine
from trireme.needs import needs
from trireme.scheduling import schedule

# One slot and very unequal latencies: a search has much to try.
LONG = machine(mul=9, load=8, less=4, add=5, store=2, out=9, and_=2)


def length_of(places):
    return max((cycle + 1 for cycle, _ in places), default=0)


class PlainSearch:
    """Tells whether there is a right schedule of so many words, by trying all cycles."""

    def __init__(self, told, block):
        self.slots = told[1]
        self.kinds = [instruction[0] for instruction in block]
        self.wanted = needs(told, block)
        # How many cycles there are at least from one to the last word.
        self.tails = [0] * len(block)
        for a, b, w, _ in reversed(self.wanted):
            self.tails[a] = max(self.tails[a], self.tails[b] + w)

    def finds(self, length, cycles=()):
        k = len(cycles)
        if k == len(self.kinds):
            return True
        first = max([0] + [cycles[a] + w for a, b, w, _ in self.wanted if b == k])
        for cycle in range(first, length - self.tails[k]):
            same = [self.kinds[k]] + [
                kind for kind, other in zip(self.kinds, cycles) if other == cycle
            ]
            if fits(self.slots, tuple(sorted(same))) and self.finds(length, cycles + (cycle,)):
                return True
        return False


class ScheduleTest(unittest.TestCase):
    def check(self, told, block):
        """Check all that point 20 promises of one schedule; return its length."""
        with self.subTest(machine=told, block=block):
            answer = schedule(told, block)
            self.assertTrue(is_data(answer), answer)
            self.assertEqual(len(answer), 3)
            places, length, reason = answer
            self.assertIs(is_schedule(told, block, places), True)
            self.assertEqual(length, length_of(places))
            self.assertLessEqual(length, bound(told, block))
            if reason is not None:
                self.assertIs(is_reason(told, block, reason), True)
                self.assertEqual(reason[-1], length)
            return length

    def check_least(self, told, block):
        """Check a schedule, and that a plain search finds none that is shorter."""
        length = self.check(told, block)
        search = PlainSearch(told, block)
        self.assertTrue(search.finds(length), (told, block))
        self.assertFalse(search.finds(length - 1), (told, block))
        return length


class KnownLengthsTest(ScheduleTest):
    def least(self, length, told, *block):
        self.assertEqual(self.check_least(told, block), length, block)

    def test_empty_block(self):
        for told in MACHINES:
            self.assertEqual(schedule(told, ())[:2], ((), 0))
            self.check(told, ())

    def test_one_instruction_takes_one_word(self):
        for told in MACHINES:
            for block in (
                ("mul", 1, reg(2), reg(3)), ("out", num(1)), ("store", reg(1), reg(1)),
                ("load", 0, num(5)), ("add", 1, reg(1), reg(1)),
            ):
                self.least(1, told, block)

    def test_b_reads_what_a_writes(self):
        block = (("mul", 1, reg(2), reg(3)), ("out", reg(1)))
        self.least(2, ONE, *block)
        self.least(10, NINE, *block)
        self.least(10, SIX_OF_NINE, *block)

    def test_b_may_go_ahead_of_what_reads_its_register(self):
        # The add may be executed 8 cycles before the mul that reads what it writes.
        told = machine(add=9, less=3)
        block = (
            ("less", 2, num(1), num(2)), ("mul", 3, reg(1), reg(2)), ("add", 1, num(5), num(6)),
            ("out", reg(1)),
        )
        places = schedule(told, block)[0]
        self.assertLess(places[2][0], places[1][0])
        self.least(10, told, *block)

    def test_b_writes_what_a_writes(self):
        told = machine(slots=2, mul=9, add=2)
        self.least(9, told, ("mul", 1, num(2), num(3)), ("add", 1, num(2), num(3)))
        # The second result arrives late anyway.
        self.least(1, told, ("add", 1, num(2), num(3)), ("mul", 1, num(2), num(3)))

    def test_memory(self):
        told = machine(slots=2, store=6)
        self.least(7, told, ("store", reg(1), num(2)), ("load", 2, num(2)))
        self.least(7, told, ("store", num(18), num(2)), ("load", 2, num(2)))
        self.least(1, told, ("store", num(1), num(2)), ("load", 2, num(2)))
        self.least(1, told, ("store", num(1), num(2)), ("store", num(2), num(2)))
        self.least(2, told, ("store", num(1), num(2)), ("store", reg(2), num(2)))

    def test_outputs_stand_in_their_order(self):
        self.least(3, SIX, ("out", num(1)), ("out", num(2)), ("out", num(3)))

    def test_slots_that_can_do_a_kind(self):
        free = [("add", k, num(1), num(2)) for k in range(6)]
        self.least(6, ONE, *free)
        self.least(1, SIX, *free)
        self.least(3, machine(slots=(KINDS, (), ("add", "mul"), ())), *free)
        self.least(6, machine(slots=(KINDS, (), ("mul",), ("and",))), *free)

    def test_slots_that_must_be_shared_well(self):
        told = machine(slots=(("add", "mul"), ("add", "and"), tuple(k for k in KINDS if k != "add")))
        self.least(
            2, told, ("add", 0, num(1), num(1)), ("and", 1, num(1), num(1)), ("add", 2, num(1), num(1)),
            ("mul", 3, num(1), num(1)), ("and", 4, num(1), num(1)), ("mul", 5, num(1), num(1)),
        )

    def test_what_lasts_long_goes_first(self):
        block = [("add", k, num(1), num(2)) for k in range(4)]
        block += [("mul", 8, num(1), num(2)), ("out", reg(8))]
        self.least(6, machine(mul=4), *block)
        self.least(10, NINE, *block)


class LeastLengthsTest(ScheduleTest):
    def test_up_to_6_instructions(self):
        source = random.Random(1)
        for k in range(500):
            told = random_machine(source) if k % 2 else sparse_machine(source)
            registers = source.choice((told[0], 16))
            self.check_least(told, random_block(source, registers, source.randint(1, 6)))

    def test_sparse_blocks_of_6_instructions(self):
        source = random.Random(2)
        without = 0
        for _ in range(300):
            told = sparse_machine(source)
            block = sparse_block(source, 6)
            self.check_least(told, block)
            without += schedule(told, block)[2] is None
        # In these cases nothing but the search tells that none is shorter.
        self.assertGreater(without, 5)

    def test_short_blocks_by_trying_all_places(self):
        source = random.Random(3)
        for _ in range(60):
            told = random_machine(source)
            told = (told[0], told[1][:3] + (KINDS,), tuple((kind, n % 3 + 1) for kind, n in told[2]))
            block = random_block(source, told[0], 3)
            length = self.check(told, block)
            shorter = list(itertools.product(range(length - 1), range(len(told[1]))))
            for places in itertools.product(shorter, repeat=3):
                self.assertIs(is_schedule(told, block, places), False)

    def test_other_names_and_another_order_of_slots(self):
        source = random.Random(4)
        for _ in range(200):
            told = sparse_machine(source)
            block = sparse_block(source, source.randint(1, 6))
            length = self.check(told, block)
            names = source.sample(range(16), 16)
            slots = tuple(source.sample(told[1], len(told[1])))
            other = (told[0], slots, told[2])
            self.assertTrue(is_machine(other))
            self.assertEqual(self.check(other, renamed(block, names)), length)

    def test_a_better_machine_is_not_slower(self):
        source = random.Random(5)
        for _ in range(200):
            told = sparse_machine(source)
            block = sparse_block(source, source.randint(1, 6))
            better = better_machine(source, told)
            self.assertTrue(is_machine(better))
            self.assertLessEqual(self.check(better, block), self.check(told, block))


class LongBlocksTest(ScheduleTest):
    def test_0_to_12_instructions(self):
        source = random.Random(6)
        for many in range(13):
            for told in MACHINES:
                self.check(told, random_block(source, 16, many))
                self.check(told, random_block(source, 2, many))
            for _ in range(40):
                self.check(random_machine(source), random_block(source, 4, many))
                self.check(sparse_machine(source), sparse_block(source, many))

    def test_one_behind_the_other(self):
        for many in range(1, 13):
            row = tuple(("add", 1, reg(1), num(1)) for _ in range(many))
            self.assertEqual(self.check(NINE, row), 9 * many - 8)
            self.assertEqual(self.check(SIX, row), many)

    def test_all_at_once(self):
        for many in range(1, 13):
            free = tuple(("add", k, num(1), num(2)) for k in range(many))
            self.assertEqual(self.check(SIX, free), (many + 5) // 6)
            self.assertEqual(self.check(NINE, free), many)

    def test_no_error_somewhat_beyond_the_limits(self):
        source = random.Random(7)
        for many in (13, 14, 16):
            self.check(machine(slots=8), sparse_block(source, many))
            self.check(machine(slots=1, usual=10), sparse_block(source, many))
            self.check(machine(registers=1), random_block(source, 18, many))

    def test_registers_that_are_not_there_do_not_matter(self):
        self.check(machine(registers=1), (("add", 15, reg(14), num(1)), ("out", reg(15))))

    def test_the_largest_are_answered_in_seconds(self):
        source = random.Random(8)
        hard = (
            ("out", reg(3)), ("out", reg(2)), ("out", num(1)), ("less", 2, reg(2), num(18)),
            ("mul", 3, reg(1), reg(3)), ("mul", 0, num(-1), num(-17)), ("add", 0, reg(1), reg(3)),
            ("load", 4, reg(7)), ("load", 1, reg(1)), ("store", reg(2), num(3)), ("and", 5, reg(3), num(0)),
            ("mul", 1, reg(4), reg(0)),
        )
        begun = time.perf_counter()
        for told in MACHINES + (LONG,):
            self.check(told, hard)
            self.check(told, hard[::-1])
            for _ in range(10):
                self.check(told, sparse_block(source, 12))
        self.assertLess(time.perf_counter() - begun, 30)


class ReasonsTest(ScheduleTest):
    def test_no_schedule_is_shorter_than_a_true_reason_says(self):
        source = random.Random(9)
        for _ in range(30):
            told = random_machine(source)
            block = random_block(source, told[0], source.randint(1, 6))
            length = schedule(told, block)[1]
            for reason in self.true_reasons(told, block):
                self.assertLessEqual(reason[-1], length, (told, block, reason))

    def true_reasons(self, told, block):
        """All true reasons of some kinds, and of rows of at most three instructions."""
        kinds = sorted({instruction[0] for instruction in block})
        guesses = []
        for many in range(1, len(kinds) + 1):
            for chosen in itertools.combinations(kinds, many):
                guesses += [("busy", chosen, number) for number in range(1, 7)]
        for many in range(1, 4):
            for row in itertools.combinations(range(len(block)), many):
                guesses += [("row", row, number) for number in range(-16, 20)]
        return [guess for guess in guesses if is_reason(told, block, guess)]

    def test_what_breaks_a_need_is_not_right(self):
        source = random.Random(10)
        for _ in range(150):
            told = random_machine(source)
            block = random_block(source, told[0], source.randint(2, 8))
            places = schedule(told, block)[0]
            for a, b, w, _ in needs(told, block):
                early = places[a][0] + w - 1
                if early >= 0:
                    wrong = places[:b] + ((early, places[b][1]),) + places[b + 1:]
                    self.assertIs(is_schedule(told, block, wrong), False)

    def test_the_same_later_is_right_as_well(self):
        source = random.Random(11)
        for _ in range(50):
            told = random_machine(source)
            block = random_block(source, told[0], source.randint(1, 12))
            late = tuple((cycle + 7, slot) for cycle, slot in schedule(told, block)[0])
            self.assertIs(is_schedule(told, block, late), True)


class InterfaceTest(unittest.TestCase):
    def test_arguments_stay_and_answers_repeat(self):
        source = random.Random(12)
        calls = [(sparse_machine(source), sparse_block(source, many)) for many in range(13)]
        before = copy.deepcopy(calls)
        answers = [schedule(*arguments) for arguments in calls]
        self.assertEqual([schedule(*arguments) for arguments in calls[::-1]], answers[::-1])
        self.assertEqual(calls, before)

    def test_interface(self):
        self.assertEqual(schedule.__module__, "trireme.scheduling")
        self.assertIs(scheduling.schedule, schedule)
        self.assertEqual(list(inspect.signature(schedule).parameters), ["machine", "block"])


if __name__ == "__main__":
    unittest.main()
