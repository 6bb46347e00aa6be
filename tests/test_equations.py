"""Tests of whole-number solutions of equations, which the sums for two words need."""

import itertools
import random
import unittest

from reckoning import BIG, minors_of
from roundswap.equations import ONE, common_divisor, solution


def equations_of(rows, right):
    """Return the equations that each row, times the unknowns, is a number."""
    pairs = [[*enumerate(row), (ONE, -total)] for row, total in zip(rows, right)]
    return [{unknown: number for unknown, number in some if number != 0} for some in pairs]


def can_be_solved(rows, right):
    """Return whether whole numbers solve equations: the minors have the same divisors with the right side."""
    width = len(rows[0])
    wider = [(*row, number) for row, number in zip(rows, right)]
    return minors_of(rows, width) + [0] == minors_of(wider, width + 1)


class SolutionTest(unittest.TestCase):
    def assert_solves(self, values, equations):
        for equation in equations:
            total = sum(number * (1 if unknown == ONE else values.get(unknown, 0)) for unknown, number in equation.items())
            self.assertEqual(total, 0, equation)

    def check(self, rows, right):
        """Check the solution of equations, or that there is none; return whether there is one."""
        equations = equations_of(rows, right)
        values = solution(equations, len(rows[0]))
        if values is not None:
            self.assert_solves(values, equations)
        self.assertEqual(values is not None, can_be_solved(rows, right), (rows, right))
        return values is not None

    def test_by_hand(self):
        self.assertEqual(solution([], 3).get(0, 0), 0)
        self.assertIsNotNone(solution([{}], 1))
        self.assertIsNone(solution([{ONE: 5}], 1))
        self.assertIsNone(solution([{0: 2, ONE: 1}], 1))
        self.assertEqual(solution([{0: 2, ONE: -6}], 1)[0], 3)
        self.assertIsNone(solution([{0: 1, ONE: -6}, {0: 2, ONE: -6}], 1))
        self.assert_solves(solution([{0: 6, 1: 10, 2: 15, ONE: -1}], 3), [{0: 6, 1: 10, 2: 15, ONE: -1}])
        self.assertIsNone(solution([{0: 6, 1: 10, 2: 14, ONE: -1}], 3))
        self.assertIsNone(solution([{0: 2, 1: 3, ONE: -1}, {0: 2, 1: -3, ONE: -3}], 2))

    def test_random_equations(self):
        source = random.Random(1)
        found = []
        for many, width, most, turn in itertools.product([1, 2, 3], [1, 2, 3, 4], [1, 3, 9], range(30)):
            rows = [tuple(source.randint(-most, most) for column in range(width)) for row in range(many)]
            found.append(self.check(rows, [source.randint(-most, most) for row in rows]))
            values = [source.randint(-9, 9) for column in range(width)]
            right = [sum(x * y for x, y in zip(row, values)) for row in rows]
            self.assertTrue(self.check(rows, right))
        self.assertGreater(found.count(True), 200)
        self.assertGreater(found.count(False), 200)

    def test_equations_with_common_divisors(self):
        source = random.Random(2)
        for turn in range(60):
            rows = [tuple(source.choice([-10, -6, 0, 4, 6, 10, 15]) for column in range(4)) for row in range(3)]
            values = [source.randint(-9, 9) for column in range(4)]
            right = [sum(x * y for x, y in zip(row, values)) for row in rows]
            self.assertTrue(self.check(rows, right))
            self.check(rows, [number + source.choice([0, 1, 2, 5, 30]) for number in right])

    def test_large_numbers(self):
        rows = [(BIG, BIG + 2, 0), (0, BIG * 3, BIG + 1)]
        self.check(rows, [1, 1])
        self.check(rows, [BIG * 7 + (BIG + 2) * 5, BIG * 15 - 4 * (BIG + 1)])

    def test_the_equations_stay_as_they_were(self):
        equations = [{0: 4, 1: 6, ONE: -2}, {0: 3, 1: 5, ONE: -1}]
        copies = [dict(equation) for equation in equations]
        solution(equations, 2)
        self.assertEqual(equations, copies)


class CommonDivisorTest(unittest.TestCase):
    def test_divisors(self):
        for numbers, divisor in [([], 0), ([0], 0), ([0, 0], 0), ([6], 6), ([-6], 6), ([6, 0, -4], 2), ([-9, -6], 3),
                                 ([5, 7, 35], 1), ([0, -1], 1), ([BIG * 6, -BIG * 4], 2 * BIG)]:
            self.assertEqual(common_divisor(numbers), divisor, numbers)
