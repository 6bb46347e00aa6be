"""Tests of tables: point 6, interface section roundswap/tables.py."""

import itertools
import random
import types
import unittest

from reckoning import BIG, lead_of, minors_of, random_rows
from roundswap.errors import Endless, InvalidCounts, InvalidNumber, InvalidTable, Unlike
from roundswap.tables import Table, tables_of

# Values that are no tuples of 2 numbers.
NO_PAIRS = [(), (1,), (1, 2, 3), (1, True), (False, 0), ("1", 2), (1, None), (None, None), ("", ""), ((1,), 2), [1, 2], "ab"]


def is_normal(rows):
    """Return whether rows are normal, word by word as point 6 says it."""
    if not all(any(row) for row in rows):
        return False
    leads = [lead_of(row) for row in rows]
    ascending = all(one < other for one, other in zip(leads, leads[1:]))
    positive = all(row[lead] > 0 for row, lead in zip(rows, leads))
    below = all(0 <= above[leads[at]] < rows[at][leads[at]] for at in range(len(rows)) for above in rows[:at])
    return ascending and positive and below


def is_sum_of_normal(counts, rows):
    """Return whether a tuple is a sum, by solving for one multiple after another."""
    for row in rows:
        lead = lead_of(row)
        if any(counts[:lead]) or counts[lead] % row[lead] != 0:
            return False
        times = counts[lead] // row[lead]
        counts = tuple(number - times * taken for number, taken in zip(counts, row))
    return not any(counts)


def closure(rows, width, modulus):
    """Return all sums modulo a number, by adding rows until nothing is new."""
    found, fresh = {(0,) * width}, [(0,) * width]
    while fresh:
        one = fresh.pop()
        for row in rows:
            added = tuple((number + more) % modulus for number, more in zip(one, row))
            if added not in found:
                found.add(added)
                fresh.append(added)
    return found


def multiples(width, modulus):
    """Return the rows with one number, the modulus, and else 0."""
    return [tuple(modulus if at == column else 0 for at in range(width)) for column in range(width)]


class TableCase(unittest.TestCase):
    def assert_normal(self, rows, width):
        """Check the normal rows of a table against their definition."""
        found = Table(width, rows).rows()
        self.assertTrue(is_normal(found), (rows, found))
        self.assertTrue(all(is_sum_of_normal(row, found) for row in rows), (rows, found))
        self.assertEqual(minors_of(found, width), minors_of(rows, width), (rows, found))

    def assert_raises_with(self, error, field, value, call):
        with self.assertRaises(error) as caught:
            call()
        self.assertEqual(getattr(caught.exception, field), value)
        self.assertIs(type(getattr(caught.exception, field)), type(value))


class NormalRowsTest(TableCase):
    def test_by_hand(self):
        for width, rows, normal in [
            (1, [], []), (1, [(0,)], []), (1, [(6,), (-4,)], [(2,)]), (1, [(-5,)], [(5,)]),
            (2, [(0, -3)], [(0, 3)]), (2, [(-2, 4)], [(2, -4)]), (2, [(0, 5), (3, -1)], [(3, 4), (0, 5)]),
            (2, [(1, 2), (2, 4), (-3, -6)], [(1, 2)]), (2, [(0, 0), (0, 0)], []),
            (3, [(0, 0, 7), (0, 2, 9)], [(0, 2, 2), (0, 0, 7)]), (3, [(2, 3, 4), (2, 3, 6)], [(2, 3, 0), (0, 0, 2)]),
            (3, [(1, 1, 1), (0, 0, -1), (1, 2, 3)], [(1, 0, 0), (0, 1, 0), (0, 0, 1)]),
        ]:
            self.assertEqual(Table(width, rows).rows(), normal)

    def test_all_small_pairs_of_rows(self):
        rows = list(itertools.product(range(-3, 4), repeat=2))
        for one, other in itertools.product(rows, repeat=2):
            self.assert_normal([one, other], 2)

    def test_random_rows(self):
        source = random.Random(1)
        for width, many, most in itertools.product([1, 2, 3], range(6), [1, 2, 9, 100]):
            for turn in range(8):
                self.assert_normal(random_rows(source, width, many, most), width)

    def test_numbers_of_30_digits(self):
        source = random.Random(2)
        for width, many in itertools.product([1, 2, 3], range(1, 6)):
            self.assert_normal(random_rows(source, width, many, 10 ** 30 - 1), width)
        self.assertEqual(Table(1, [(BIG * 3,), (-BIG * 2,)]).rows(), [(BIG,)])
        self.assertEqual(Table(2, [(BIG, 1), (0, -BIG)]).rows(), [(BIG, 1), (0, BIG)])

    def test_rows_that_depend_on_one_another(self):
        source = random.Random(3)
        for width in [1, 2, 3]:
            for turn in range(20):
                one, other = random_rows(source, width, 2, 30)
                more = [tuple(a * x + b * y for x, y in zip(one, other)) for a, b in [(1, 1), (2, -3), (0, 0), (-5, 0)]]
                self.assert_normal([one, other, *more], width)
                self.assertEqual(Table(width, [one, other, *more]), Table(width, [one, other]))

    def test_the_same_table_from_other_rows(self):
        source = random.Random(4)
        for width in [1, 2, 3]:
            for turn in range(10):
                rows = random_rows(source, width, 3, 40)
                table = Table(width, rows)
                for order in itertools.permutations(rows):
                    self.assertEqual(Table(width, list(order)).rows(), table.rows())
                added = tuple(sum(column) for column in zip(*rows))
                self.assertEqual(Table(width, [added, *rows, rows[0]]).rows(), table.rows())
                changed = [tuple(x + 7 * y for x, y in zip(rows[0], rows[1])), rows[1], tuple(-x for x in rows[2])]
                self.assertEqual(Table(width, changed).rows(), table.rows())
                self.assertEqual(Table(width, table.rows()).rows(), table.rows())

    def test_many_rows(self):
        source = random.Random(5)
        rows = random_rows(source, 3, 400, 10 ** 30 - 1)
        self.assertEqual(Table(3, rows).rows(), [(1, 0, 0), (0, 1, 0), (0, 0, 1)])
        even = [tuple(6 * number for number in row) for row in rows]
        self.assertEqual(Table(3, even).rows(), [(6, 0, 0), (0, 6, 0), (0, 0, 6)])
        flat = [(x, y, x + 2 * y) for x, y, z in rows]
        self.assertEqual(Table(3, flat).rows(), [(1, 0, 1), (0, 1, 2)])


class PlaceTest(TableCase):
    def test_places_against_all_sums(self):
        source = random.Random(6)
        for width, modulus in [(1, 12), (2, 6), (2, 7), (3, 4)]:
            for turn in range(8):
                rows = random_rows(source, width, 2, modulus) + multiples(width, modulus)
                self.check_places(Table(width, rows), closure(rows, width, modulus), width, modulus)

    def check_places(self, table, sums, width, modulus):
        tuples = list(itertools.product(range(modulus), repeat=width))
        for counts in tuples:
            self.assertIs(counts in table, counts in sums)
            place = table.place(counts)
            self.assertIn(tuple((x - y) % modulus for x, y in zip(counts, place)), sums)
        places = list(table.places())
        self.assertEqual(places, sorted({table.place(counts) for counts in tuples}))
        self.assertEqual(table.size, len(places))
        self.assertEqual(table.size * len(sums), modulus ** width)
        self.assertEqual([table.place(place) for place in places], places)

    def test_place_is_within_the_leading_numbers(self):
        source = random.Random(7)
        for width in [1, 2, 3]:
            for turn in range(30):
                table = Table(width, random_rows(source, width, source.randint(0, 3), 12))
                for counts in random_rows(source, width, 5, 50):
                    place = table.place(counts)
                    self.assertIs(type(place), tuple)
                    for row in table.rows():
                        self.assertIn(place[lead_of(row)], range(row[lead_of(row)]))
                    moved = tuple(x - y for x, y in zip(counts, place))
                    self.assertTrue(is_sum_of_normal(moved, table.rows()))
                    self.assertIn(moved, table)

    def test_place_of_an_endless_table(self):
        table = Table(2, [(2, 3)])
        self.assertEqual(table.place((5, 1)), (1, -5))
        self.assertEqual(table.place((-1, 0)), (1, 3))
        self.assertEqual(Table(3).place((4, -5, 6)), (4, -5, 6))
        self.assertEqual(Table(3, [(0, 2, 1)]).place((9, 3, 0)), (9, 1, -1))

    def test_in(self):
        table = Table(2, [(2, 1), (0, 3)])
        for counts, expected in [((0, 0), True), ((2, 1), True), ((2, 4), True), ((-2, -1), True), ((2, 2), False),
                                 ((1, 0), False), ((4, 2), True), ((0, 3), True), ((0, 1), False), ((6, 0), True)]:
            self.assertIs(counts in table, expected)
            self.assertIs(counts not in table, not expected)
        self.assertIs((0, 1) in Table(2, [(1, 0)]), False)
        self.assertIs((5, 0) in Table(2, [(1, 0)]), True)

    def test_numbers_of_30_digits(self):
        table = Table(2, [(BIG, 5), (0, BIG)])
        self.assertIn((BIG * 3, 15), table)
        self.assertNotIn((BIG * 3, 16), table)
        self.assertEqual(table.place((-1, 0)), (BIG - 1, 5))
        self.assertEqual(table.size, BIG * BIG)

    def test_invalid_counts(self):
        table = Table(2, [(2, 0), (0, 2)])
        for counts in NO_PAIRS:
            with self.assertRaises(InvalidCounts):
                table.place(counts)
            with self.assertRaises(InvalidCounts):
                counts in table


class SizeTest(TableCase):
    def test_sizes(self):
        for width, rows, size in [(1, [], None), (1, [(4,)], 4), (2, [(1, 0)], None), (2, [(0, 0), (2, 1)], None),
                                  (2, [(2, 1), (0, 3)], 6), (3, multiples(3, 5), 125), (3, [(1, 2, 3), (0, 1, 1)], None)]:
            self.assertEqual(Table(width, rows).size, size)
            self.assertEqual(Table(width, rows).width, width)

    def test_properties_cannot_be_assigned(self):
        table = Table(2)
        with self.assertRaises(AttributeError):
            table.width = 1
        with self.assertRaises(AttributeError):
            table.size = 1

    def test_places(self):
        self.assertEqual(list(Table(1, [(3,)]).places()), [(0,), (1,), (2,)])
        self.assertEqual(list(Table(2, [(2, 1), (0, 2)]).places()), [(0, 0), (0, 1), (1, 0), (1, 1)])
        self.assertEqual(list(Table(2, multiples(2, 1)).places()), [(0, 0)])
        self.assertEqual(len(list(Table(3, [(2, 0, 1), (0, 3, 1), (0, 0, 4)]).places())), 24)

    def test_places_of_a_large_table_come_one_by_one(self):
        places = Table(3, multiples(3, BIG)).places()
        self.assertEqual([next(places), next(places)], [(0, 0, 0), (0, 0, 1)])

    def test_places_within_places(self):
        table = Table(2, [(2, 0), (0, 3)])
        places = list(table.places())
        found = [(one, other) for one in table.places() for other in table.places()]
        self.assertEqual(found, list(itertools.product(places, repeat=2)))

    def test_endless_when_the_first_value_is_asked_for(self):
        for table in [Table(1), Table(2, [(1, 0)]), Table(3, [(1, 0, 0), (0, 0, 1)])]:
            places = table.places()
            self.assertIsInstance(places, types.GeneratorType)
            with self.assertRaises(Endless):
                next(places)


class CoversTest(TableCase):
    def test_covers(self):
        for one, other, expected in [
            ([], [], True), ([(1, 0)], [], True), ([], [(1, 0)], False), ([(2, 0)], [(4, 0)], True), ([(4, 0)], [(2, 0)], False),
            ([(1, 1)], [(2, 2), (-3, -3)], True), ([(1, 1)], [(2, 3)], False), (multiples(2, 2), [(2, 1), (0, 4)], False),
            ([(1, 0), (0, 1)], [(7, -3)], True), ([(2, 1), (0, 3)], [(2, 4), (4, 5)], True),
        ]:
            self.assertIs(Table(2, one).covers(Table(2, other)), expected)

    def test_against_all_sums(self):
        source = random.Random(8)
        for turn in range(60):
            one = random_rows(source, 2, 2, 4) + multiples(2, 4)
            other = random_rows(source, 2, 2, 4) + multiples(2, 4)
            expected = closure(one, 2, 4) >= closure(other, 2, 4)
            self.assertIs(Table(2, one).covers(Table(2, other)), expected)

    def test_joined(self):
        one, other = Table(2, [(4, 0)]), Table(2, [(6, 1)])
        self.assertEqual(one.joined(other).rows(), Table(2, [(4, 0), (6, 1)]).rows())
        self.assertEqual(one.joined(Table(2)), one)
        self.assertEqual(other.joined(one), one.joined(other))
        self.assertEqual((one.rows(), other.rows()), ([(4, 0)], [(6, 1)]))
        source = random.Random(9)
        for width in [1, 2, 3]:
            rows, more = random_rows(source, width, 2, 20), random_rows(source, width, 2, 20)
            self.assertEqual(Table(width, rows).joined(Table(width, more)), Table(width, rows + more))

    def test_unlike(self):
        for one, other in [(1, 2), (2, 1), (2, 3), (3, 1)]:
            with self.assertRaises(Unlike):
                Table(one).covers(Table(other))
            with self.assertRaises(Unlike):
                Table(one).joined(Table(other))


class EqualTest(TableCase):
    def test_equal_tables(self):
        self.assertTrue(Table(2, [(4, 2), (2, -2)]) == Table(2, [(2, 4), (0, 6)]))
        self.assertFalse(Table(2, [(4, 2), (2, -2)]) != Table(2, [(2, 4), (0, 6)]))
        self.assertFalse(Table(2, [(4, 2)]) == Table(2, [(4, 1)]))
        self.assertTrue(Table(2, [(4, 2)]) != Table(2, [(4, 1)]))
        self.assertFalse(Table(1) == Table(2))
        self.assertTrue(Table(3) == Table(3, [(0, 0, 0)]))

    def test_other_values(self):
        table = Table(2, [(1, 0)])
        for value in [None, 2, "Table(2 wide, endless)", [(1, 0)], (2, [(1, 0)]), table.rows(), {}, Table]:
            self.assertIs(table == value, False)
            self.assertIs(table != value, True)
            self.assertIs(value == table, False)

    def test_repr(self):
        self.assertEqual(repr(Table(2, [(2, 1), (0, 3)])), "Table(2 wide, 6 places)")
        self.assertEqual(repr(Table(2, [(2, 1)])), "Table(2 wide, endless)")
        self.assertEqual(repr(Table(1, [(1,)])), "Table(1 wide, 1 places)")
        self.assertEqual(repr(Table(3)), "Table(3 wide, endless)")


class InvalidTest(TableCase):
    def test_width(self):
        for width in [0, 4, -1, 10 ** 29, True, False]:
            self.assert_raises_with(InvalidNumber, "given", width, lambda: Table(width))
            self.assert_raises_with(InvalidNumber, "given", width, lambda: Table(width, [(1, "x"), None]))

    def test_rows(self):
        for row in NO_PAIRS:
            for at in range(3):
                rows = [(1, 2)] * at + [row, (3, 4), (None,)]
                self.assert_raises_with(InvalidTable, "at", at, lambda: Table(2, rows))

    def test_rows_of_other_widths(self):
        self.assert_raises_with(InvalidTable, "at", 0, lambda: Table(1, [(1, 2)]))
        self.assert_raises_with(InvalidTable, "at", 1, lambda: Table(3, [(1, 2, 3), (1, 2)]))
        self.assert_raises_with(InvalidTable, "at", 0, lambda: Table(1, [(True,)]))


class ArgumentsTest(TableCase):
    def test_tuples_and_keywords(self):
        self.assertEqual(Table(2, ((1, 2), (3, 4))), Table(2, [(1, 2), (3, 4)]))
        table = Table(rows=[(2, 1), (0, 3)], width=2)
        self.assertEqual(table.place(counts=(3, 3)), (1, 2))
        self.assertTrue(table.covers(other=table))
        self.assertEqual(table.joined(other=table), table)
        self.assertEqual([found.rows() for found in tables_of(index=6, table=table)], [[(2, 1), (0, 3)]])

    def test_lists_that_are_passed(self):
        rows = [(4, 2), (2, -2)]
        table = Table(2, rows)
        self.assertEqual(rows, [(4, 2), (2, -2)])
        rows[0] = (1, 0)
        rows.append((0, 1))
        self.assertEqual(table.rows(), [(2, 4), (0, 6)])

    def test_lists_that_are_returned(self):
        table = Table(2, [(2, 4), (0, 6)])
        found = table.rows()
        self.assertIs(type(found), list)
        found.append((1, 1))
        found[0] = (9, 9)
        self.assertEqual(table.rows(), [(2, 4), (0, 6)])
        self.assertEqual(table.place((3, 0)), (1, 2))
        joined = table.joined(Table(2))
        joined.rows().clear()
        self.assertEqual(joined.rows(), [(2, 4), (0, 6)])


class TablesOfTest(TableCase):
    def plain(self, width, index):
        """Return the rows of all tables with an index, from all lists of small rows."""
        rows = list(itertools.product(range(index), repeat=width))
        found = set()
        for some in itertools.combinations_with_replacement(rows, width):
            table = Table(width, [*some, *multiples(width, index)])
            if table.size == index:
                found.add(tuple(table.rows()))
        return [list(some) for some in sorted(found)]

    def test_against_a_plain_search(self):
        for width, most in [(1, 24), (2, 7), (3, 3)]:
            for index in range(1, most + 1):
                found = [table.rows() for table in tables_of(Table(width), index)]
                self.assertEqual(found, self.plain(width, index))

    def test_tables_that_cover(self):
        source = random.Random(10)
        for width, most in [(1, 24), (2, 12), (3, 8)]:
            for index in range(1, most + 1):
                table = Table(width, random_rows(source, width, source.randint(0, width), 6))
                expected = [one for one in tables_of(Table(width), index) if one.covers(table)]
                found = list(tables_of(table, index))
                self.assertEqual(found, expected)
                self.assertTrue(all(one.size == index and one.width == width for one in found))

    def test_by_hand(self):
        found = [table.rows() for table in tables_of(Table(2), 2)]
        self.assertEqual(found, [[(1, 0), (0, 2)], [(1, 1), (0, 2)], [(2, 0), (0, 1)]])
        found = [table.rows() for table in tables_of(Table(2, [(0, 1)]), 4)]
        self.assertEqual(found, [[(4, 0), (0, 1)]])
        self.assertEqual(list(tables_of(Table(1, [(3,)]), 2)), [])
        self.assertEqual([table.rows() for table in tables_of(Table(1, [(6,)]), 3)], [[(3,)]])

    def test_how_many_up_to_24(self):
        divisors = {index: [one for one in range(1, index + 1) if index % one == 0] for index in range(1, 25)}
        for index in range(1, 25):
            self.assertEqual(len(list(tables_of(Table(1), index))), 1)
            self.assertEqual(len(list(tables_of(Table(2), index))), sum(divisors[index]))
            expected = sum(one * sum(divisors[one]) for one in divisors[index])
            found = [table.rows() for table in tables_of(Table(3), index)]
            self.assertEqual(len(found), expected)
            self.assertEqual(found, sorted(found))
            self.assertTrue(all(is_normal(rows) for rows in found))

    def test_one_within_the_loop_over_another(self):
        found = [(one.rows(), other.rows()) for one in tables_of(Table(2), 3) for other in tables_of(Table(2), 2)]
        self.assertEqual(len(found), 12)
        self.assertEqual(found[3], ([(1, 1), (0, 3)], [(1, 0), (0, 2)]))

    def test_invalid_number_when_the_first_value_is_asked_for(self):
        for index in [0, 25, -1, -24, 10 ** 29, True]:
            tables = tables_of(Table(2), index)
            self.assertIsInstance(tables, types.GeneratorType)
            self.assert_raises_with(InvalidNumber, "given", index, lambda: next(tables))
