"""Tests of the best reasons: point 18."""

import itertools
import random
import unittest

from helpers import machine, num, random_block, random_machine, reg
from trireme.bounds import best_busy, best_reason, best_ring, best_row
from trireme.judge import is_loop_reason, is_reason
from trireme.needs import loop_needs, needs

NINE = machine(usual=9)


class BestReasonsTest(unittest.TestCase):
    """The best reason is true, and no other one has a greater number."""

    def test_busy(self):
        source = random.Random(1)
        for _ in range(200):
            told = random_machine(source)
            block = random_block(source, told[0], source.randint(1, 8))
            reason = best_busy(told, block)
            self.assertIs(is_reason(told, block, reason), True)
            kinds = sorted({instruction[0] for instruction in block})
            for many in range(1, len(kinds) + 1):
                for chosen in itertools.combinations(kinds, many):
                    for more in (1, 2):
                        other = ("busy", chosen, reason[-1] + more)
                        self.assertIs(is_reason(told, block, other), False)

    def test_row(self):
        source = random.Random(2)
        for _ in range(200):
            told = random_machine(source)
            block = random_block(source, told[0], source.randint(1, 8))
            reason = best_row(needs(told, block), len(block))
            self.assertIs(is_reason(told, block, reason), True)
            ws = {(a, b): w for a, b, w, _ in needs(told, block)}
            for many in range(1, 9):
                for row in itertools.combinations(range(len(block)), many):
                    steps = list(zip(row, row[1:]))
                    if all(step in ws for step in steps):
                        self.assertLess(sum(ws[step] for step in steps), reason[-1])

    def test_ring(self):
        source = random.Random(3)
        for _ in range(200):
            told = random_machine(source)
            body = random_block(source, told[0], source.randint(1, 5))
            reason = best_ring(loop_needs(told, body), len(body))
            best = max(self.numbers_of_rings(told, body), default=0)
            if reason is None:
                self.assertLessEqual(best, 0)
            else:
                self.assertIs(is_loop_reason(told, body, reason), True)
                self.assertEqual(reason[-1], best)

    def numbers_of_rings(self, told, body):
        ws = {(a, b, d): w for a, b, w, d in loop_needs(told, body)}
        for many in range(1, 6):
            for ring in itertools.permutations(range(len(body)), many):
                for distances in itertools.product((0, 1), repeat=many):
                    steps = list(zip(ring, ring[1:] + ring[:1], distances))
                    if any(distances) and all(step in ws for step in steps):
                        yield -(-sum(ws[step] for step in steps) // sum(distances))

    def test_one_behind_the_other(self):
        row = tuple(("add", 1, reg(1), num(1)) for _ in range(12))
        self.assertEqual(best_row(needs(NINE, row), 12), ("row", tuple(range(12)), 100))
        reason = best_ring(loop_needs(NINE, row), 12)
        self.assertEqual((reason[0], sorted(reason[1]), reason[-1]), ("ring", list(range(12)), 108))
        self.assertIs(is_loop_reason(NINE, row, reason), True)

    def test_no_instruction(self):
        self.assertIs(best_busy(NINE, ()), None)
        self.assertIs(best_row((), 0), None)
        self.assertIs(best_ring((), 0), None)

    def test_the_best_of_several(self):
        one, two, three = ("busy", ("add",), 1), ("row", (0,), 2), ("row", (1, 2), 3)
        self.assertEqual(best_reason([one, None, three, two]), three)
        self.assertEqual(best_reason([None, one]), one)
        self.assertIs(best_reason([None, None]), None)


if __name__ == "__main__":
    unittest.main()
