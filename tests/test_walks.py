"""Tests of walks: point 7, interface section roundswap/walks.py."""

import itertools
import random
import unittest

from reckoning import BIG, name_of, raised, random_rows, random_word, streets_by_steps
from roundswap.errors import InvalidCounts, Unlike
from roundswap.tables import Table
from roundswap.walks import Walk

LETTERS = {1: "t", 2: "ta", 3: "xay"}
# Values that are no tuples of 2 numbers.
NO_PAIRS = [(), (1,), (1, 2, 3), (1, True), (False, 0), ("1", 2), (1, None), (None, None), ("", ""), ((1,), 2), [1, 2],
            "ab"]
NO_LETTERS = [-1, 2, 3, -2, BIG, -BIG, True, False]


def random_table(source, width):
    return Table(width, random_rows(source, width, source.randint(0, width + 1), 5))


def random_streets(source, width, many):
    """Return tuples (place, letter, number), some of them of one street."""
    return [(place, source.randrange(width), source.randint(-3, 3)) for place in random_rows(source, width, many, 4)]


def totals_of(rows, streets):
    """Return the streets of a list of tuples, added up one by one."""
    numbers = {}
    for place, letter, number in streets:
        street = (name_of(rows, place), letter)
        for turn in range(abs(number)):
            numbers[street] = numbers.get(street, 0) + (1 if number > 0 else -1)
    return sorted((place, letter, number) for (place, letter), number in numbers.items() if number != 0)


def ends_of(rows, streets):
    """Return the ends of a list of tuples, added up one by one."""
    numbers = {}
    for place, letter, number in streets:
        there = list(place)
        there[letter] += 1
        for end, count in [(name_of(rows, place), -number), (name_of(rows, there), number)]:
            numbers[end] = numbers.get(end, 0) + count
    return sorted((place, number) for place, number in numbers.items() if number != 0)


class WalksOfWordsTest(unittest.TestCase):
    def test_by_hand(self):
        table = Table(2)
        for word, expected in [
            ("", []), ("t", [((0, 0), 0, 1)]), ("T", [((-1, 0), 0, -1)]), ("a", [((0, 0), 1, 1)]), ("A", [((0, -1), 1, -1)]),
            ("tT", []), ("Tt", []), ("tt", [((0, 0), 0, 1), ((1, 0), 0, 1)]),
            ("taTA", [((0, 0), 0, 1), ((0, 0), 1, -1), ((0, 1), 0, -1), ((1, 0), 1, 1)]),
            ("taT", [((0, 0), 0, 1), ((0, 1), 0, -1), ((1, 0), 1, 1)]),
        ]:
            self.assertEqual(Walk.of(table, word, "ta").streets(), expected, word)

    def test_by_hand_in_a_table_with_rows(self):
        table = Table(2, [(2, 0), (0, 1)])
        self.assertEqual(Walk.of(table, "tt", "ta").streets(), [((0, 0), 0, 1), ((1, 0), 0, 1)])
        self.assertEqual(Walk.of(table, "tttt", "ta").streets(), [((0, 0), 0, 2), ((1, 0), 0, 2)])
        self.assertEqual(Walk.of(table, "T", "ta").streets(), [((1, 0), 0, -1)])
        self.assertEqual(Walk.of(table, "aaA", "ta").streets(), [((0, 0), 1, 1)])
        self.assertEqual(Walk.of(table, "taTA", "ta").streets(), [((0, 0), 1, -1), ((1, 0), 1, 1)])
        self.assertEqual(Walk.of(table, "a", "ta", start=(-3, 9)).streets(), [((1, 0), 1, 1)])

    def test_against_single_steps(self):
        source = random.Random(1)
        for width, turn in itertools.product([1, 2, 3], range(60)):
            table, word = random_table(source, width), random_word(source, LETTERS[width], 0, 30)
            for start in [(0,) * width, *random_rows(source, width, 3, 12)]:
                walk = Walk.of(table, word, LETTERS[width], start=start)
                self.assertEqual(walk.streets(), streets_by_steps(table.rows(), word, LETTERS[width], start))
                self.assertIs(walk.table, table)

    def test_without_a_start_it_begins_at_zeros(self):
        source = random.Random(2)
        for width in [1, 2, 3]:
            table, word = random_table(source, width), random_word(source, LETTERS[width], 5, 9)
            expected = streets_by_steps(table.rows(), word, LETTERS[width], (0,) * width)
            self.assertEqual(Walk.of(table, word, LETTERS[width]).streets(), expected)
            self.assertEqual(Walk.of(table, word, LETTERS[width], start=None).streets(), expected)

    def test_tables_without_rows(self):
        self.assertEqual(Walk.of(Table(3), "xAy", "xay", start=(5, 6, 7)).streets(),
                         [((5, 6, 7), 0, 1), ((6, 5, 7), 1, -1), ((6, 5, 7), 2, 1)])

    def test_numbers_of_30_digits(self):
        walk = Walk.of(Table(2, [(7, 0)]), "t", "ta", start=(7 * BIG + 2, -BIG))
        self.assertEqual(walk.streets(), [((2, -BIG), 0, 1)])
        self.assertEqual(Walk.of(Table(1, [(BIG,)]), "T", "t").streets(), [((BIG - 1,), 0, -1)])

    def test_errors_in_order(self):
        table = Table(2, [(2, 1)])
        for letters in ["a", "abc"]:
            self.assertEqual(raised(lambda: Walk.of(table, "?", letters, start=(None,))), ("Unlike",))
        for word in ["c", "ab ", "abC", "1"]:
            self.assertEqual(raised(lambda: Walk.of(table, word, "ab", start=(1, True))), ("InvalidWord", 0))
            self.assertEqual(raised(lambda: Walk.of(table, word, "ab")), ("InvalidWord", 0))
        for start in NO_PAIRS:
            self.assertEqual(raised(lambda: Walk.of(table, "ab", "ab", start=start)), ("InvalidCounts",))


class StreetsTest(unittest.TestCase):
    def test_against_single_counts(self):
        source = random.Random(3)
        for width, turn in itertools.product([1, 2, 3], range(40)):
            table, streets = random_table(source, width), random_streets(source, width, source.randint(0, 12))
            self.assertEqual(Walk(table, streets).streets(), totals_of(table.rows(), streets))
            self.assertEqual(Walk(table, streets).ends(), ends_of(table.rows(), streets))

    def test_numbers_of_one_street_add_up(self):
        table = Table(2, [(3, 0)])
        walk = Walk(table, [((0, 0), 1, 2), ((0, 0), 1, 5), ((3, 0), 1, -1), ((0, 0), 0, 1), ((-6, 0), 1, 10)])
        self.assertEqual(walk.streets(), [((0, 0), 0, 1), ((0, 0), 1, 16)])
        self.assertEqual(Walk(table, [((0, 0), 1, 2), ((3, 0), 1, -2)]).streets(), [])
        self.assertEqual(Walk(table, [((0, 0), 1, 0)]).streets(), [])
        self.assertEqual(Walk(table, [((1, 4), 0, 1), ((2, 4), 0, 3), ((1, 4), 0, -1)]).streets(), [((2, 4), 0, 3)])

    def test_order(self):
        streets = [((1, 0), 0, 4), ((0, 1), 1, -9), ((0, 1), 0, 7), ((-1, 9), 1, 1), ((0, -2), 0, 3)]
        expected = [((-1, 9), 1, 1), ((0, -2), 0, 3), ((0, 1), 0, 7), ((0, 1), 1, -9), ((1, 0), 0, 4)]
        for some in itertools.permutations(streets):
            self.assertEqual(Walk(Table(2), some).streets(), expected)

    def test_without_streets(self):
        self.assertEqual(Walk(Table(2)).streets(), [])
        self.assertEqual(Walk(Table(2)).ends(), [])

    def test_numbers_of_30_digits(self):
        walk = Walk(Table(1, [(4,)]), [((BIG * 4,), 0, BIG), ((1,), 0, -BIG), ((0,), 0, 1)])
        self.assertEqual(walk.streets(), [((0,), 0, BIG + 1), ((1,), 0, -BIG)])
        self.assertEqual(walk.ends(), [((0,), -BIG - 1), ((1,), 2 * BIG + 1), ((2,), -BIG)])

    def test_at_street(self):
        source = random.Random(4)
        for width in [1, 2, 3]:
            table = Table(width, random_rows(source, width, 2, 4))
            walk = Walk(table, random_streets(source, width, 12))
            numbers = {(place, letter): number for place, letter, number in walk.streets()}
            for place in random_rows(source, width, 60, 5):
                for letter in range(width):
                    expected = numbers.get((name_of(table.rows(), place), letter), 0)
                    self.assertEqual(walk.at_street(place, letter), expected)
            self.assertEqual({street: walk.at_street(*street) for street in numbers}, numbers)

    def test_errors_of_at_street_in_order(self):
        walk = Walk(Table(2), [((0, 0), 0, 1)])
        for place in NO_PAIRS:
            self.assertEqual(raised(lambda: walk.at_street(place, 5)), ("InvalidCounts",))
        for letter in NO_LETTERS:
            found = raised(lambda: walk.at_street((0, 0), letter))
            self.assertEqual(found, ("InvalidNumber", letter))
            self.assertIs(type(found[1]), type(letter))


class EndsTest(unittest.TestCase):
    def test_ends_of_words(self):
        source = random.Random(5)
        for width, turn in itertools.product([1, 2, 3], range(30)):
            table, word = random_table(source, width), random_word(source, LETTERS[width], 0, 12)
            start = random_rows(source, width, 1, 5)[0]
            counts = [word.count(letter) - word.count(letter.upper()) for letter in LETTERS[width]]
            begin = name_of(table.rows(), start)
            end = name_of(table.rows(), [one + other for one, other in zip(start, counts)])
            expected = [] if begin == end else sorted([(begin, -1), (end, 1)])
            self.assertEqual(Walk.of(table, word, LETTERS[width], start=start).ends(), expected)

    def test_order_and_zeros(self):
        walk = Walk(Table(2), [((5, 0), 0, 2), ((6, 0), 0, 2), ((-1, 3), 1, -4), ((-1, 4), 0, 1)])
        self.assertEqual(walk.ends(), [((-1, 3), 4), ((-1, 4), -5), ((0, 4), 1), ((5, 0), -2), ((7, 0), 2)])

    def test_streets_that_lead_to_their_own_beginning(self):
        self.assertEqual(Walk(Table(2, [(1, 0)]), [((0, 3), 0, 5), ((0, 3), 1, 1)]).ends(), [((0, 3), -1), ((0, 4), 1)])


class ReckoningTest(unittest.TestCase):
    def pairs(self):
        """Yield two walks of a table and the lists they were made from."""
        source = random.Random(6)
        for width, turn in itertools.product([1, 2, 3], range(25)):
            table = random_table(source, width)
            one, other = random_streets(source, width, 8), random_streets(source, width, 8)
            yield Walk(table, one), Walk(table, other), one, other

    def test_moved(self):
        source = random.Random(7)
        for walk, unused, streets, unused in self.pairs():
            rows, before = walk.table.rows(), walk.streets()
            for counts in random_rows(source, walk.table.width, 3, 9):
                moved = [(tuple(x + y for x, y in zip(place, counts)), letter, n) for place, letter, n in streets]
                self.assertEqual(walk.moved(counts).streets(), totals_of(rows, moved))
                self.assertEqual(walk.moved(counts).table, walk.table)
            self.assertEqual(walk.streets(), before)

    def test_moved_walks_of_words_are_walks_from_there(self):
        source = random.Random(8)
        for width, turn in itertools.product([1, 2, 3], range(20)):
            table, word = random_table(source, width), random_word(source, LETTERS[width], 1, 12)
            one, other = random_rows(source, width, 2, 9)
            both = tuple(x + y for x, y in zip(one, other))
            walk = Walk.of(table, word, LETTERS[width], start=one)
            self.assertEqual(walk.moved(other), Walk.of(table, word, LETTERS[width], start=both))
            for row in table.rows():
                self.assertEqual(walk.moved(row), walk)

    def test_moved_by_30_digits(self):
        walk = Walk(Table(2, [(2, 0)]), [((1, 1), 0, 3)])
        self.assertEqual(walk.moved((BIG, BIG)).streets(), [(((BIG + 1) % 2, BIG + 1), 0, 3)])

    def test_times(self):
        for walk, unused, streets, unused in self.pairs():
            before = walk.streets()
            for count in [0, 1, 2, 7, -1, -3, BIG, -BIG]:
                expected = [(place, letter, count * number) for place, letter, number in before if count != 0]
                self.assertEqual(walk.times(count).streets(), expected)
            self.assertEqual(walk.streets(), before)
            self.assertEqual(walk.times(0), Walk(walk.table))

    def test_plus_and_minus(self):
        for walk, another, streets, others in self.pairs():
            rows, before = walk.table.rows(), (walk.streets(), another.streets())
            self.assertEqual(walk.plus(another).streets(), totals_of(rows, streets + others))
            opposites = [(place, letter, -number) for place, letter, number in others]
            self.assertEqual(walk.minus(another).streets(), totals_of(rows, streets + opposites))
            self.assertEqual(walk.minus(walk).streets(), [])
            self.assertEqual(walk.plus(walk), walk.times(2))
            self.assertEqual(walk.plus(another), another.plus(walk))
            self.assertEqual(walk.plus(another).minus(another), walk)
            self.assertEqual((walk.streets(), another.streets()), before)

    def test_tables_may_be_made_from_other_rows(self):
        one = Walk(Table(2, [(4, 2), (2, -2)]), [((0, 0), 0, 1)])
        other = Walk(Table(2, [(2, 4), (0, 6)]), [((2, 4), 0, 5)])
        self.assertEqual(one.plus(other).streets(), [((0, 0), 0, 6)])
        self.assertEqual(one.minus(other).streets(), [((0, 0), 0, -4)])

    def test_unlike(self):
        for one, other in [(Table(1), Table(2)), (Table(2), Table(2, [(1, 0)])), (Table(2, [(2, 0)]), Table(2, [(4, 0)]))]:
            for first, second in [(one, other), (other, one)]:
                with self.assertRaises(Unlike):
                    Walk(first).plus(Walk(second))
                with self.assertRaises(Unlike):
                    Walk(first).minus(Walk(second))

    def test_moved_by_no_counts(self):
        for streets in [[], [((0, 0), 0, 1)]]:
            for counts in NO_PAIRS:
                with self.assertRaises(InvalidCounts):
                    Walk(Table(2), streets).moved(counts)
        with self.assertRaises(InvalidCounts):
            Walk(Table(2)).moved(None)


class EqualTest(unittest.TestCase):
    def test_equal_walks(self):
        table = Table(2, [(3, 0)])
        walk = Walk(table, [((0, 0), 1, 2), ((1, 0), 0, 1)])
        for streets in [[((1, 0), 0, 1), ((0, 0), 1, 2)], [((-2, 0), 0, 1), ((3, 0), 1, 1), ((0, 0), 1, 1)],
                        [((1, 0), 0, 1), ((0, 0), 1, 2), ((9, 9), 0, 0)]]:
            self.assertIs(walk == Walk(Table(2, [(-3, 0), (6, 0)]), streets), True)
            self.assertIs(walk != Walk(table, streets), False)
        for streets in [[], [((0, 0), 1, 2)], [((0, 0), 1, 2), ((1, 0), 0, 2)], [((0, 0), 0, 2), ((1, 0), 1, 1)],
                        [((0, 0), 1, 2), ((1, 1), 0, 1)], [((0, 0), 1, 2), ((1, 0), 0, 1), ((1, 1), 0, 1)]]:
            self.assertIs(walk == Walk(table, streets), False)
            self.assertIs(walk != Walk(table, streets), True)

    def test_walks_of_other_tables(self):
        for streets in [[], [((0, 0), 0, 1)]]:
            self.assertIs(Walk(Table(2), streets) == Walk(Table(2, [(5, 0)]), streets), False)
            self.assertIs(Walk(Table(2), streets) != Walk(Table(2, [(5, 0)]), streets), True)
        self.assertIs(Walk(Table(1)) == Walk(Table(2)), False)

    def test_other_values(self):
        for walk in [Walk(Table(2)), Walk(Table(2), [((0, 0), 0, 1)])]:
            for value in [None, 0, 1, True, "Walk(1 streets)", [], walk.streets(), tuple(walk.streets()), Table(2), {}, Walk]:
                self.assertIs(walk == value, False)
                self.assertIs(walk != value, True)
                self.assertIs(value == walk, False)

    def test_repr_length_and_truth(self):
        for many in [0, 1, 2, 3, 12]:
            walk = Walk(Table(2), [((at, 0), 0, -at - 1) for at in range(many)] + [((5, 5), 1, 0)])
            self.assertEqual((repr(walk), len(walk), bool(walk)), (f"Walk({many} streets)", many, many > 0))
        walk = Walk(Table(2), [((0, 0), 0, 1), ((0, 0), 0, -1)])
        self.assertEqual((repr(walk), len(walk), bool(walk)), ("Walk(0 streets)", 0, False))


class InvalidStreetTest(unittest.TestCase):
    def assert_first_bad(self, table, street):
        """Check the index of a street that is not valid, behind and ahead of others."""
        good = ((0,) * table.width, 0, 1)
        for at in range(3):
            for streets in [[good] * at + [street], [good] * at + [street, good, ((None,), True, 1)]]:
                self.assertEqual(raised(lambda: Walk(table, streets)), ("InvalidStreet", at))
                self.assertEqual(raised(lambda: Walk(table, tuple(streets))), ("InvalidStreet", at))

    def test_places(self):
        for place in NO_PAIRS:
            self.assert_first_bad(Table(2, [(1, 1)]), (place, 0, 1))
            self.assert_first_bad(Table(2), (place, 0, 0))
        for place in [(), (1, 2), (True,), ("1",), (None,), [1], 1, None]:
            self.assert_first_bad(Table(1), (place, 0, 1))
        self.assert_first_bad(Table(3), ((1, 2), 0, 1))
        self.assert_first_bad(Table(3), ((1, 2, 3, 4), 0, 1))

    def test_letters(self):
        for letter in NO_LETTERS:
            self.assert_first_bad(Table(2), ((0, 0), letter, 1))
            self.assert_first_bad(Table(2), ((0, 0), letter, 0))
        self.assert_first_bad(Table(1), ((0,), 1, 1))
        self.assert_first_bad(Table(3), ((0, 0, 0), 3, 1))
        self.assertEqual(Walk(Table(3), [((0, 0, 0), 2, 1)]).streets(), [((0, 0, 0), 2, 1)])


class ArgumentsTest(unittest.TestCase):
    def test_keywords(self):
        table = Table(2, [(2, 0)])
        walk = Walk(streets=[((3, 1), 0, 5)], table=table)
        self.assertEqual(walk, Walk(table, [((1, 1), 0, 5)]))
        self.assertEqual(Walk.of(table=table, letters="ta", word="t", start=(1, 1)).times(count=5), walk)
        self.assertEqual(walk.at_street(letter=0, place=(1, 1)), 5)
        self.assertEqual(walk.moved(counts=(1, 0)), Walk(table, [((0, 1), 0, 5)]))
        self.assertEqual(walk.plus(other=walk), walk.times(2))
        self.assertEqual(walk.minus(other=walk), Walk(table))

    def test_start_is_for_keywords_only(self):
        with self.assertRaises(TypeError):
            Walk.of(Table(2), "t", "ta", (0, 0))

    def test_tuples_where_lists_are_expected(self):
        streets = [((0, 0), 0, 1), ((1, 0), 1, 2)]
        self.assertEqual(Walk(Table(2), tuple(streets)), Walk(Table(2), streets))

    def test_lists_that_are_passed(self):
        streets = [((0, 0), 0, 1), ((1, 0), 1, 2)]
        walk = Walk(Table(2), streets)
        self.assertEqual(streets, [((0, 0), 0, 1), ((1, 0), 1, 2)])
        streets[0] = ((5, 5), 0, 9)
        streets.append(((6, 6), 1, 9))
        self.assertEqual(walk.streets(), [((0, 0), 0, 1), ((1, 0), 1, 2)])
        streets.clear()
        self.assertEqual(len(walk), 2)

    def test_lists_that_are_returned(self):
        walk = Walk(Table(2), [((0, 0), 0, 1), ((1, 0), 1, 2)])
        for ask in [walk.streets, walk.ends, walk.plus(walk).streets, walk.moved((1, 1)).streets, walk.times(3).ends]:
            before = ask()
            self.assertIs(type(before), list)
            found = ask()
            found.append(((9, 9), 0, 1))
            found[0] = None
            self.assertEqual(ask(), before)
            found.clear()
            self.assertEqual(ask(), before)

    def test_what_is_returned_may_be_passed_back(self):
        source = random.Random(9)
        for turn in range(20):
            walk = Walk(random_table(source, 2), random_streets(source, 2, 9)).times(BIG).times(BIG)
            self.assertEqual(Walk(walk.table, walk.streets()), walk)
            for place, letter, number in walk.streets():
                self.assertEqual(walk.at_street(place, letter), number)
                self.assertEqual(walk.moved(place).streets()[0][2] % BIG, 0)

    def test_the_table_cannot_be_assigned(self):
        walk = Walk(Table(2))
        with self.assertRaises(AttributeError):
            walk.table = Table(1)
