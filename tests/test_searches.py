"""Tests of what finds verdicts: grids, bases, regions, schemes, surveys and sieves, each one by itself."""

import itertools
import random
import unittest
from unittest import mock

from reckoning import is_sum_by_steps, random_level_rule, random_rows, random_rule, random_word, steps_away
from roundswap import sieves
from roundswap.bases import Basis, Remainder
from roundswap.grids import Grid
from roundswap.judges import Judge
from roundswap.regions import Region, near_counts, rows_of_terms
from roundswap.schemes import Scheme, separating
from roundswap.sieves import Sieve
from roundswap.surveys import Difference, Field, Survey
from roundswap.tables import Table, tables_of
from roundswap.tolls import toll_count
from roundswap.towns import Town
from roundswap.verdicts import decide

LETTERS = {1: "t", 2: "ta", 3: "xay"}


def random_town(source, width, many, most):
    draw = source.choice([random_rule, random_level_rule])
    return Town(LETTERS[width], *[draw(source, LETTERS[width], most) for rule in range(many)])


def basis_of(town):
    return Basis(town.letters, Grid(town.table), town.rules())


class GridTest(unittest.TestCase):
    def test_coordinates_tell_places(self):
        source = random.Random(1)
        for width, many, turn in itertools.product([1, 2, 3], [0, 1, 2, 4], range(20)):
            table = Table(width, random_rows(source, width, many, 9))
            grid = Grid(table)
            one, other = random_rows(source, width, 2, 20)
            first, second = grid.coordinates(one), grid.coordinates(other)
            self.assertEqual(first == second, table.place(one) == table.place(other))
            self.assertEqual(table.place(grid.counts_at(first)), table.place(one))
            total = tuple(number + more for number, more in zip(one, other))
            self.assertEqual(grid.shifted(first, second), grid.coordinates(total))
            self.assertTrue(all(0 <= number < modulus for number, modulus in zip(first, grid.moduli) if modulus))
            self.assertEqual(grid.moduli.count(0), width - len(table.rows()))


class BasisTest(unittest.TestCase):
    def reduced(self, basis, one, other):
        remainder = Remainder(basis.walk_between(one, other), [])
        basis.reduce_all(remainder, 10 ** 6)
        return remainder

    def test_complete_bases_know_even_words(self):
        source = random.Random(2)
        found = set()
        for width, many, turn in itertools.product([1, 2, 3], [1, 2, 3], range(8)):
            town = random_town(source, width, many, 5)
            basis = basis_of(town)
            basis.work(10 ** 6)
            self.assertTrue(basis.is_complete())
            one = random_word(source, town.letters, 0, 8)
            other = "".join(source.sample(one, len(one)))
            away, taken = steps_away(source, town, one, 10, 40)
            self.assertEqual(self.reduced(basis, one, away).whole(), {})
            even = decide(town, one, other).told() == "even"
            self.assertEqual(self.reduced(basis, one, other).whole() == {}, even)
            found.add(even)
        self.assertEqual(found, {True, False})

    def test_recipes_are_sums(self):
        source = random.Random(3)
        for width, many, turn in itertools.product([1, 2, 3], [1, 2, 4], range(5)):
            town = random_town(source, width, many, 5)
            basis = basis_of(town)
            basis.work(10 ** 6)
            one = random_word(source, town.letters, 0, 10)
            other, taken = steps_away(source, town, one, 12, 40)
            terms = {term: -count for term, count in basis.rules_of(self.reduced(basis, one, other).recipe).items()}
            self.assertTrue(is_sum_by_steps(town, one, other, rows_of_terms(town, basis.grid, terms)))

    def test_work_in_small_pieces(self):
        town = Town("ab", ("aab", "baa"), ("abbAAB", "ABab"), ("aB", "BBAab"))
        whole, pieces = basis_of(town), basis_of(town)
        whole.work(10 ** 6)
        while not pieces.is_complete():
            pieces.work(1)
        heads = [sorted(basis.heads[member] for member in basis.active) for basis in (whole, pieces)]
        self.assertEqual(heads[0], heads[1])

    def test_reduced_walks_are_normal(self):
        # Walks that differ by something even are reduced to the same walk.
        source = random.Random(4)
        for turn in range(20):
            town = random_town(source, 2, 2, 5)
            basis = basis_of(town)
            basis.work(10 ** 6)
            one = random_word(source, "ta", 0, 8)
            other, taken = steps_away(source, town, one, 10, 40)
            third = random_word(source, "ta", 0, 8)
            self.assertEqual(self.reduced(basis, one, third).whole(), self.reduced(basis, other, third).whole())


class RegionTest(unittest.TestCase):
    def test_sums_nearby(self):
        source = random.Random(5)
        for width, many, turn in itertools.product([1, 2, 3], [1, 2, 6], range(5)):
            town = random_town(source, width, many, 6)
            basis = basis_of(town)
            one = random_word(source, town.letters, 0, 10)
            other, taken = steps_away(source, town, one, 10, 40)
            region = Region(basis, one, other)
            terms = region.near_sum(2000)
            if terms is None:
                terms = region.near_sum(2000)
            self.assertTrue(is_sum_by_steps(town, one, other, rows_of_terms(town, basis.grid, terms)))

    def test_a_closed_region(self):
        town = Town("ab", ("aaa", ""), ("bb", ""))
        region = Region(basis_of(town), "ab", "ba")
        found = [region.near_sum(100), region.closed]
        while not region.closed:
            found += [region.near_sum(100), region.closed]
        self.assertEqual((found[:2], found[-2:]), ([None, False], [None, True]))
        self.assertEqual(len(region.inside), 6)
        self.assertIsNone(region.near_sum(100))

    def test_a_region_that_grows(self):
        town = Town("ab", ("ab", "ba"))
        region = Region(basis_of(town), "a" * 6 + "b" * 6, "b" * 6 + "a" * 6)
        self.assertIsNone(region.near_sum(23))
        self.assertEqual(len(region.inside), 24)
        self.assertIsNone(region.near_sum(24))
        self.assertGreater(len(region.inside), 24)
        self.assertIsNone(region.near_sum(1000))
        self.assertIsNone(region.near_sum(1000))
        self.assertEqual(len(region.near_sum(1000)), 36)

    def test_near_counts(self):
        self.assertEqual(near_counts([(5,)], (4,)), (-1,))
        self.assertEqual(near_counts([(2, 9), (0, 10)], (1, 9)), (-1, 0))
        self.assertEqual(near_counts([(2, 4), (0, 10)], (1, 9)), (1, -1))
        self.assertEqual(near_counts([], (7, -8)), (7, -8))


class SchemeTest(unittest.TestCase):
    def test_as_many_tolls_as_counted(self):
        source = random.Random(6)
        for width, many, index in itertools.product([1, 2, 3], [0, 1, 2, 4], [1, 2, 3, 4, 6]):
            town = random_town(source, width, many, 8)
            for table in list(tables_of(town.table, index))[:3]:
                scheme = Field(town, table.rows()).scheme
                free = index * width - len([step for step in scheme.steps if step[0] < index * width])
                fresh = {other for street, others in scheme.steps for other in others if other >= index * width}
                gone = {street for street, others in scheme.steps}
                left = [street for street in list(range(index * width)) + sorted(fresh) if street not in gone]
                self.assertGreaterEqual(len(left), free)
                for modulus in [2, 3, 4, 12, 35]:
                    count = 1
                    for street in left:
                        order = scheme.orders.get(street, 0)
                        count *= len([number for number in range(modulus) if order * number % modulus == 0])
                    self.assertEqual(count, toll_count(town, table, modulus))

    def test_by_hand(self):
        scheme = Scheme([{0: 4, 1: 6}, {1: 10}], 2)
        self.assertEqual(scheme.worth({0: 4, 1: 6}), {})
        self.assertEqual(scheme.worth({0: 4, 1: 16}), {})
        self.assertNotEqual(scheme.worth({0: 2, 1: 3}), {})
        # 40 is the order of the group, 2 that of the part that all its members have twice.
        orders = sorted(scheme.orders.values())
        self.assertEqual((orders[0] * orders[-1] if len(orders) == 2 else orders[0]), 40)
        self.assertEqual(Scheme([], 3).worth({2: 5}), {2: 5})

    def test_separating(self):
        for number, order in itertools.product(range(-40, 41), [0, 1, 2, 3, 4, 12, 36, 49, 55, 221]):
            moduli = [modulus for modulus in range(2, 60) if order % modulus == 0 and number % modulus != 0]
            if number != 0 or order != 0:
                for bound in [1, 5, 30]:
                    expected = min([modulus for modulus in moduli if modulus <= bound], default=None)
                    self.assertEqual(separating(number, order, bound), expected, (number, order, bound))
        self.assertEqual(separating(6, 6 * 1000003, 10 ** 7), 1000003)
        self.assertIsNone(separating(6, 6 * 1000003, 10 ** 6))


class SurveyTest(unittest.TestCase):
    def test_least_against_counts_of_tolls(self):
        source = random.Random(7)
        sums = set()
        for width, many, turn in itertools.product([1, 2, 3], [0, 1, 2, 5], range(12)):
            town = random_town(source, width, many, 8)
            one = random_word(source, town.letters, 0, 12)
            other = "".join(source.sample(one, len(one))) if turn % 3 else random_word(source, town.letters, 0, 12)
            verdict = decide(town, one, other)
            if not verdict and verdict.toll_town.size + verdict.toll_town.modulus <= (16 if width < 3 else 9):
                barrier = verdict.toll_town
                found = (barrier.size, barrier.modulus, barrier.table.rows())
                sums.add(sum(found[:2]))
                self.assertEqual(found, self.least_by_counts(town, one, other, sum(found[:2])), (town.text(), one, other))
        self.assertGreater(len(sums), 4)

    def least_by_counts(self, town, one, other, most):
        """Return the least toll towns: those that are fewer if both words become a rule."""
        more = town.with_rules((one, other))
        for total in range(2, most + 1):
            for index in range(1, total):
                for table in tables_of(town.table, index):
                    if toll_count(more, table, total - index) != toll_count(town, table, total - index):
                        return index, total - index, table.rows()
        return None

    def test_a_sieve_holds_back_only_tables_that_do_not_part(self):
        source = random.Random(8)
        held = passed = 0
        with mock.patch.object(sieves, "FIRST_INDEX", 1), mock.patch.object(sieves, "FIRST_SINGLE_INDEX", 1):
            for width, many, turn in itertools.product([1, 2, 3], [1, 2, 4], range(4)):
                town = random_town(source, width, many, 6)
                one = random_word(source, town.letters, 0, 8)
                other = "".join(source.sample(one, len(one)))
                judge = Judge(town)
                judge.basis.work(10 ** 5)
                sieve, survey = Sieve(judge.basis, town, one, other), Survey(town)
                difference = Difference(town.letters, one, other)
                for index in range(1, 7):
                    parting = [rows for rows in survey.tables_with(index)
                               if survey.field_of(rows).separates(difference)]
                    passing = survey.tables_passing(sieve, index)
                    self.assertEqual([rows for rows in parting if rows not in passing], [])
                    held += len(survey.tables_with(index)) - len(passing)
                    passed += len(passing)
        self.assertGreater(held, 50)
        self.assertGreater(passed, 50)

    def test_a_town_for_which_the_sieve_is_needed(self):
        # The letters multiply what goes round by 3 and by 2 here, and 3 * 3 * 3 + 2 * 2 times it is nothing. So only
        # tables with as many places as 3 has powers modulo 31 part words.
        town = Town("ab", ("aabABA", "abABabABabAB"), ("babABB", "abABabAB"), ("aaaabABAAA", "bbbaBABB"))
        barrier = decide(town, "abAB", "").toll_town
        self.assertTrue(barrier.keeps(town) and barrier.parts("abAB", "", "ab"))
        self.assertEqual((barrier.size, barrier.modulus, barrier.table.rows()), (30, 31, [(6, 1), (0, 5)]))


class JudgeTest(unittest.TestCase):
    def test_each_search_by_itself(self):
        source = random.Random(9)
        for width, many, turn in itertools.product([1, 2, 3], [1, 2, 6], range(4)):
            town = random_town(source, width, many, 5)
            one = random_word(source, town.letters, 0, 8)
            other = "".join(source.sample(one, len(one)))
            even = Judge(town).is_even(one, other)
            self.assertEqual(Judge(town).find_sum(one, other) is not None, even)
            slow = Judge(town)
            # Without the basis, only regions and surveys are left.
            with mock.patch.object(slow.basis, "work", lambda effort: None):
                with mock.patch.object(slow.basis, "is_complete", lambda: False):
                    rows = slow.find_sum(one, other)
            self.assertEqual(rows is not None, even, (town.text(), one, other))
            if even:
                self.assertTrue(is_sum_by_steps(town, one, other, rows))

    def test_sums_of_bases_with_great_numbers(self):
        # The recipes of this basis have great numbers, so that sums are looked for nearby.
        town = Town("ab", ("BaaaBbaaBBbaBAA", "aaaAaabbA"), ("aAbaaA", "AbBABBbAbAbBAbA"))
        judge = Judge(town)
        judge.basis.work(10 ** 7)
        self.assertGreater(max(judge.basis.bits), 64)
        source = random.Random(11)
        for turn in range(4):
            one = random_word(source, "ab", 0, 10)
            other, taken = steps_away(source, town, one, 10, 40)
            rows = judge.find_sum(one, other)
            self.assertTrue(is_sum_by_steps(town, one, other, rows))
            self.assertLess(max([abs(count) for place, number, count in rows], default=0), 10 ** 9)

    def test_a_judge_may_be_asked_again(self):
        source = random.Random(10)
        town = Town("ta", ("taT", "aa"), ("aaaaaa", ""))
        judge = Judge(town)
        for turn in range(30):
            one, other = random_word(source, "ta", 0, 6), random_word(source, "ta", 0, 6)
            even = bool(decide(town, one, other))
            self.assertEqual((judge.is_even(one, other), judge.find_sum(one, other) is not None), (even, even))
