"""Tests of toll_count: point 11, interface section roundswap/tolls.py."""

import itertools
import random
import unittest

from reckoning import BIG, end_by_steps, raised, random_word, sum_by_steps
from roundswap.remainders import index_modulo
from roundswap.tables import Table, tables_of
from roundswap.tolls import TollTown, toll_count
from roundswap.towns import Town

LETTERS = {1: "t", 2: "ta", 3: "xay"}
WIDE = Table(2, [(8, 0), (0, 8)])
TOO_WIDE = Table(2, [(5, 0), (0, 13)])


def all_tolls(table, modulus):
    """Yield every list of tolls, as a dict by places."""
    places = list(table.places())
    rows = list(itertools.product(range(modulus), repeat=table.width))
    for tolls in itertools.product(rows, repeat=len(places)):
        yield dict(zip(places, tolls))


def is_kept(town, table, modulus, tolls):
    """Return whether all rules lead from each place to one place at one toll, step by step."""
    ends = [[end_by_steps(table.rows(), modulus, tolls, side, town.letters, place) for side in rule]
            for rule in town.rules() for place in table.places()]
    return all(one == other for one, other in ends)


def count_by_hand(town, table, modulus):
    return sum(is_kept(town, table, modulus, tolls) for tolls in all_tolls(table, modulus))


def rank_modulo(rows, prime):
    """Return the rank of rows modulo a prime."""
    rest, rank = [list(row) for row in rows], 0
    for column in range(len(rest[0]) if rest else 0):
        pivot = next((row for row in rest if row[column] % prime), None)
        if pivot is not None:
            rest.remove(pivot)
            inverse = pow(pivot[column], -1, prime)
            rest = [[(x - y * row[column] * inverse) % prime for x, y in zip(row, pivot)] for row in rest]
            rank += 1
    return rank


def count_by_rank(town, table, prime):
    """Return the count for a prime modulus and a table that covers that of the town."""
    places = list(table.places())
    streets = [(place, letter) for place in places for letter in range(table.width)]
    walks = [sum_by_steps(table.rows(), town.rules(), town.letters, [(place, number, 1)])
             for number in range(len(town)) for place in places]
    rows = [[walk.get(street, 0) for street in streets] for walk in walks]
    return prime ** (len(streets) - rank_modulo(rows, prime))


def random_town(source, width, longest):
    rules = [(random_word(source, LETTERS[width], 0, longest), random_word(source, LETTERS[width], 0, longest))
             for rule in range(source.randint(0, 3))]
    return Town(LETTERS[width], *rules)


class TollCountTest(unittest.TestCase):
    def test_by_hand(self):
        town, table = Town("ta", ("taT", "aa")), Table(2, [(2, 0), (0, 1)])
        # The tolls of t are free, and each toll of a is twice the other one.
        self.assertEqual([toll_count(town, table, modulus) for modulus in [1, 2, 3, 6]], [1, 4, 27, 108])
        self.assertEqual(toll_count(Town("t", ("tttt", "")), Table(1, [(1,)]), 6), 2)
        self.assertEqual(toll_count(Town("t", ("tttt", "")), Table(1, [(2,)]), 6), 12)
        self.assertEqual(toll_count(Town("t", ("tttt", "")), Table(1, [(4,)]), 6), 216)

    def test_towns_without_rules(self):
        for width, modulus in itertools.product([1, 2, 3], [1, 2, 5, 6]):
            for table in tables_of(Table(width), 3):
                self.assertEqual(toll_count(Town(LETTERS[width]), table, modulus), modulus ** (3 * width))

    def test_against_every_list_of_tolls(self):
        source = random.Random(1)
        cases = [(1, [1, 2, 3, 4], [1, 2, 3, 4, 6]), (2, [1, 2], [1, 2, 3, 4, 5, 6]), (3, [1], [2, 3, 4, 6]), (3, [2], [2, 3])]
        found = []
        for width, sizes, moduli in cases:
            for size, modulus, turn in itertools.product(sizes, moduli, range(4)):
                town = random_town(source, width, 4)
                table = source.choice(list(tables_of(Table(width), size)))
                expected = count_by_hand(town, table, modulus)
                self.assertEqual(toll_count(town, table, modulus), expected, (town.text(), table.rows(), modulus))
                found.append((table.covers(town.table), expected))
        self.assertGreater(len([count for covers, count in found if covers]), 60)
        self.assertEqual({count for covers, count in found if not covers}, {0})
        self.assertGreater(len({count for covers, count in found}), 15)

    def test_rules_that_need_divisors_of_the_modulus(self):
        for size, modulus, power in itertools.product([1, 2, 3], [2, 3, 4, 6, 8, 9, 12], [2, 3, 4, 6]):
            if modulus ** size <= 2000:
                town, table = Town("t", ("t" * power, "")), Table(1, [(size,)])
                self.assertEqual(toll_count(town, table, modulus), count_by_hand(town, table, modulus))

    def test_a_table_that_does_not_cover(self):
        town = Town("ta", ("taT", "aa"))
        self.assertEqual(toll_count(town, Table(2, [(1, 0), (0, 2)]), 3), 0)
        self.assertEqual(toll_count(town, Table(2, [(1, 0), (0, 2)]), 1), 0)
        self.assertEqual(toll_count(town, WIDE, BIG), 0)
        self.assertEqual(toll_count(Town("t", ("ttt", "")), Table(1, [(2,)]), 6), 0)

    def test_larger_tables_against_ranks(self):
        source = random.Random(2)
        for width, size, prime in [(1, 24, 2), (1, 24, 3), (2, 12, 2), (2, 12, 3), (2, 16, 5), (3, 12, 2), (3, 8, 7)]:
            covered = 0
            while covered < 3:
                town = random_town(source, width, 8)
                tables = list(tables_of(town.table, size))
                if tables and len(town) > 0:
                    table = source.choice(tables)
                    self.assertEqual(toll_count(town, table, prime), count_by_rank(town, table, prime))
                    covered += 1

    def test_moduli_without_common_divisors_multiply(self):
        source = random.Random(3)
        for one, other in [(2, 3), (4, 9), (8, 15), (7, 12), (BIG, 6)]:
            town = Town("ab", (random_word(source, "ab", 8, 8) + "abAB", ""), ("abAB" * 3, "bA" + "aB"))
            table = Table(2, [(4, 0), (0, 4)]).joined(town.table)
            both = toll_count(town, table, one) * toll_count(town, table, other)
            self.assertEqual(toll_count(town, table, one * other), both)

    def test_64_places(self):
        town = Town("ab", ("abAB" * 4, "baBA" * 2))
        # The commutator is to be paid six times from each place.
        self.assertEqual(toll_count(town, WIDE, 5), toll_count(Town("ab", ("abAB", "")), WIDE, 5))
        self.assertEqual(toll_count(town, WIDE, 5), count_by_rank(town, WIDE, 5))
        self.assertEqual(toll_count(Town("ab"), WIDE, BIG), BIG ** 128)
        self.assertEqual(toll_count(town, WIDE, BIG), BIG ** 65)

    def test_keeps_agrees(self):
        town, table = Town("ab", ("aab", "baa"), ("bb", "")), Table(2, [(1, 0), (0, 2)])
        kept = [tolls for tolls in all_tolls(table, 4) if TollTown(table, 4, list(tolls.values())).keeps(town)]
        self.assertEqual(len(kept), toll_count(town, table, 4))

    def test_errors_in_order(self):
        for table in [Table(1), Table(3), Table(1, [(99,)]), Table(3, [(1, 0, 0)])]:
            self.assertEqual(raised(lambda: toll_count(Town("ab"), table, 0)), ("Unlike",))
        for table in [Table(2), Table(2, [(BIG, 5)])]:
            self.assertEqual(raised(lambda: toll_count(Town("ab"), table, 0)), ("Endless",))
        for table in [TOO_WIDE, Table(2, [(BIG, 0), (0, BIG)])]:
            self.assertEqual(raised(lambda: toll_count(Town("ab"), table, 0)), ("TooWide", 64))
            self.assertEqual(raised(lambda: toll_count(Town("ab", ("a", "")), table, 3)), ("TooWide", 64))
        for modulus in [0, -1, -BIG, True, False]:
            for town in [Town("ab"), Town("ab", ("a", ""))]:
                found = raised(lambda: toll_count(town, WIDE, modulus))
                self.assertEqual(found, ("InvalidNumber", modulus))
                self.assertIs(type(found[1]), type(modulus))

    def test_keywords(self):
        self.assertEqual(toll_count(modulus=3, table=Table(2, [(1, 0), (0, 1)]), town=Town("ab")), 9)


class IndexModuloTest(unittest.TestCase):
    def test_against_tables(self):
        source = random.Random(4)
        for width, modulus, turn in itertools.product([1, 2, 3], [1, 2, 4, 6, 12, 30], range(10)):
            rows = [tuple(source.randint(-40, 40) for column in range(width)) for row in range(source.randint(0, 4))]
            multiples = [tuple(modulus if at == column else 0 for at in range(width)) for column in range(width)]
            self.assertEqual(index_modulo(rows, width, modulus), Table(width, rows + multiples).size)

    def test_by_hand(self):
        self.assertEqual(index_modulo([(2, 0, 0, 0), (0, 0, 3, 0)], 4, 6), 2 * 6 * 3 * 6)
        self.assertEqual(index_modulo([(4, 1)], 2, 8), 8)
        self.assertEqual(index_modulo([(1, 2, 3), (4, 5, 6), (7, 8, 9)], 3, 9), 27)
