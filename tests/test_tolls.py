"""Tests of toll towns: point 11, interface section roundswap/tolls.py without toll_count."""

import itertools
import random
import unittest

from reckoning import BIG, end_by_steps, name_of, raised, random_rows, random_word
from roundswap.errors import InvalidCounts, Unlike
from roundswap.tables import Table, tables_of
from roundswap.tolls import TollTown
from roundswap.towns import Town

LETTERS = {1: "t", 2: "ta", 3: "xay"}
NO_PAIRS = [(), (1,), (1, 2, 3), (1, True), (False, 0), ("1", 2), (1, None), [1, 2], "ab"]
# No tuples of two tolls modulo 3.
NO_TOLLS = [*NO_PAIRS, (3, 0), (0, 3), (-1, 0), (0, -1), (BIG, 0), None, 0]
TWO = Table(2, [(2, 0), (0, 1)])
ENDLESS = Table(2, [(2, 0)])


def random_toll_town(source, width, most=9):
    tables = list(tables_of(Table(width), source.randint(1, most)))
    table, modulus = source.choice(tables), source.randint(1, 7)
    return TollTown(table, modulus, [random_tolls(source, width, modulus) for place in table.places()])


def random_tolls(source, width, modulus):
    return tuple(source.randrange(modulus) for letter in range(width))


def tolls_by_places(toll_town):
    return dict(zip(toll_town.table.places(), toll_town.tolls()))


def end_by_hand(toll_town, word, letters, start):
    rows = toll_town.table.rows()
    return end_by_steps(rows, toll_town.modulus, tolls_by_places(toll_town), word, letters, start)


class ConstructorTest(unittest.TestCase):
    def test_values(self):
        source = random.Random(1)
        for width, turn in itertools.product([1, 2, 3], range(10)):
            table = source.choice(list(tables_of(Table(width), source.randint(1, 12))))
            tolls = [random_tolls(source, width, 9) for place in table.places()]
            toll_town = TollTown(table, 9, tolls)
            self.assertEqual((toll_town.table, toll_town.modulus, toll_town.size), (table, 9, table.size))
            self.assertEqual(toll_town.tolls(), tolls)
            for place, row in zip(table.places(), tolls):
                self.assertEqual(tuple(toll_town.toll(place, letter) for letter in range(width)), row)

    def test_modulus_1(self):
        toll_town = TollTown(Table(1, [(2,)]), 1, [(0,), (0,)])
        self.assertEqual((toll_town.end("ttT", "t"), toll_town.modulus), (((1,), 0), 1))
        self.assertEqual(raised(lambda: TollTown(Table(1, [(2,)]), 1, [(0,), (1,)])), ("InvalidTolls", 1))

    def test_endless_comes_first(self):
        for modulus, tolls in itertools.product([3, 0, True], [[], [(0, 0)], [(None,)]]):
            self.assertEqual(raised(lambda: TollTown(ENDLESS, modulus, tolls)), ("Endless",))
            self.assertEqual(raised(lambda: TollTown(Table(2), modulus, tolls)), ("Endless",))

    def test_modulus_comes_second(self):
        for modulus, tolls in itertools.product([0, -1, -BIG, True, False], [[], [(0, 0)], [(None,)], [(0, 0)] * 9]):
            found = raised(lambda: TollTown(TWO, modulus, tolls))
            self.assertEqual(found, ("InvalidNumber", modulus))
            self.assertIs(type(found[1]), type(modulus))

    def test_tolls_come_last(self):
        for row in NO_TOLLS:
            table = Table(2, [(2, 1), (0, 2)])
            for at in range(4):
                tolls = [(2, 1)] * at + [row] + [(0, 0)] * (3 - at)
                for some in [tolls, tolls[:at + 1], tolls + [None], tuple(tolls)]:
                    self.assertEqual(raised(lambda: TollTown(table, 3, some)), ("InvalidTolls", at), row)

    def test_too_few_and_too_many_tolls(self):
        for many in range(9):
            expected = None if many == 2 else ("InvalidTolls", min(many, 2))
            self.assertEqual(raised(lambda: TollTown(TWO, 3, [(0, 1)] * many)), expected)
        self.assertEqual(raised(lambda: TollTown(TWO, 3, [(0, 1), (0, 1), None, (9, 9)])), ("InvalidTolls", 2))
        self.assertEqual(raised(lambda: TollTown(TWO, 3, [(0, 1), None, (0, 1)])), ("InvalidTolls", 1))

    def test_a_table_with_very_many_places(self):
        table = Table(3, [(BIG, 0, 0), (0, BIG, 0), (0, 0, BIG)])
        self.assertEqual(raised(lambda: TollTown(table, 3, [])), ("InvalidTolls", 0))
        self.assertEqual(raised(lambda: TollTown(table, 3, [(0, 1, 2)] * 400)), ("InvalidTolls", 400))
        self.assertEqual(raised(lambda: TollTown(table, 3, [(0, 1, 2), (0, 1, 3)])), ("InvalidTolls", 1))

    def test_a_modulus_of_30_digits(self):
        toll_town = TollTown(TWO, BIG, [(BIG - 1, 0), (5, BIG - 1)])
        self.assertEqual(toll_town.end("ttt", "ta"), ((1, 0), 3))
        self.assertEqual(toll_town.end("TA", "ta"), ((1, 0), BIG - 4))
        self.assertEqual(raised(lambda: TollTown(TWO, BIG, [(BIG - 1, 0), (5, BIG)])), ("InvalidTolls", 1))

    def test_values_cannot_be_assigned(self):
        toll_town = TollTown(TWO, 3, [(0, 1), (0, 2)])
        for name in ["table", "modulus", "size"]:
            with self.assertRaises(AttributeError):
                setattr(toll_town, name, 1)


class TollTest(unittest.TestCase):
    def test_any_tuple_of_a_place(self):
        source = random.Random(2)
        for width, turn in itertools.product([1, 2, 3], range(10)):
            toll_town = random_toll_town(source, width)
            tolls = tolls_by_places(toll_town)
            for place, letter in itertools.product(random_rows(source, width, 5, 20), range(width)):
                expected = tolls[name_of(toll_town.table.rows(), place)][letter]
                self.assertEqual(toll_town.toll(place, letter), expected)
        self.assertEqual(TollTown(TWO, 3, [(0, 1), (0, 2)]).toll((BIG, -BIG), 1), 2)

    def test_errors_in_order(self):
        toll_town = TollTown(TWO, 3, [(0, 1), (0, 2)])
        for place in NO_PAIRS:
            self.assertEqual(raised(lambda: toll_town.toll(place, 7)), ("InvalidCounts",))
        for letter in [-1, 2, -2, 3, BIG, True, False]:
            found = raised(lambda: toll_town.toll((0, 0), letter))
            self.assertEqual(found, ("InvalidNumber", letter))
            self.assertIs(type(found[1]), type(letter))


class EndTest(unittest.TestCase):
    def test_by_hand(self):
        toll_town = TollTown(TWO, 5, [(1, 2), (3, 4)])
        for word, expected in [("", ((0, 0), 0)), ("t", ((1, 0), 1)), ("tt", ((0, 0), 4)), ("T", ((1, 0), 2)),
                               ("a", ((0, 0), 2)), ("A", ((0, 0), 3)), ("ta", ((1, 0), 0)), ("at", ((1, 0), 3)),
                               ("taTA", ((0, 0), 2)), ("aaa", ((0, 0), 1)), ("tT", ((0, 0), 0))]:
            self.assertEqual(toll_town.end(word, "ta"), expected, word)
        self.assertEqual(toll_town.end("t", "ta", start=(1, 0)), ((0, 0), 3))
        self.assertEqual(toll_town.end("", "ta", start=(7, 3)), ((1, 0), 0))

    def test_against_single_steps(self):
        source = random.Random(3)
        for width, turn in itertools.product([1, 2, 3], range(40)):
            toll_town, word = random_toll_town(source, width), random_word(source, LETTERS[width], 0, 30)
            expected = end_by_hand(toll_town, word, LETTERS[width], (0,) * width)
            self.assertEqual(toll_town.end(word, LETTERS[width]), expected)
            self.assertEqual(toll_town.end(word, LETTERS[width], start=None), expected)
            for start in random_rows(source, width, 3, 12):
                expected = end_by_hand(toll_town, word, LETTERS[width], start)
                self.assertEqual(toll_town.end(word, LETTERS[width], start=start), expected)

    def test_starts_of_30_digits(self):
        toll_town = TollTown(TWO, 5, [(1, 2), (3, 4)])
        self.assertEqual(toll_town.end("a", "ta", start=(BIG, -BIG)), ((1, 0), 4))

    def test_errors_in_order(self):
        toll_town = TollTown(TWO, 5, [(1, 2), (3, 4)])
        for letters in ["t", "tab"]:
            self.assertEqual(raised(lambda: toll_town.end("?", letters, start=(None,))), ("Unlike",))
        for word in ["b", "ta ", "1"]:
            self.assertEqual(raised(lambda: toll_town.end(word, "ta", start=(None,))), ("InvalidWord", 0))
            self.assertEqual(raised(lambda: toll_town.end(word, "ta")), ("InvalidWord", 0))
        for start in NO_PAIRS:
            self.assertEqual(raised(lambda: toll_town.end("ta", "ta", start=start)), ("InvalidCounts",))

    def test_start_is_for_keywords_only(self):
        with self.assertRaises(TypeError):
            TollTown(TWO, 5, [(1, 2), (3, 4)]).end("t", "ta", (0, 0))


class PartsTest(unittest.TestCase):
    def test_by_hand(self):
        toll_town = TollTown(TWO, 3, [(0, 1), (0, 2)])
        for one, other, expected in [("", "", False), ("a", "", True), ("aaa", "", False), ("t", "", True), ("tt", "", False),
                                     ("ta", "at", True), ("taT", "aa", False), ("ttaTT", "aaaa", False), ("T", "t", False)]:
            self.assertIs(toll_town.parts(one, other, "ta"), expected, (one, other))

    def test_against_single_steps(self):
        source = random.Random(4)
        found = []
        for width, turn in itertools.product([1, 2, 3], range(60)):
            toll_town = random_toll_town(source, width, most=3)
            one, other = (random_word(source, LETTERS[width], 0, 6) for word in range(2))
            ends = [end_by_hand(toll_town, word, LETTERS[width], (0,) * width) for word in (one, other)]
            self.assertIs(toll_town.parts(one, other, LETTERS[width]), ends[0] != ends[1])
            found.append((ends[0][0] == ends[1][0], ends[0][1] == ends[1][1]))
        self.assertEqual(len(set(found)), 4)

    def test_errors_in_order(self):
        toll_town = TollTown(TWO, 3, [(0, 1), (0, 2)])
        for letters in ["t", "tab"]:
            self.assertEqual(raised(lambda: toll_town.parts("?", "?", letters)), ("Unlike",))
        self.assertEqual(raised(lambda: toll_town.parts("b", "?", "ta")), ("InvalidWord", 0))
        self.assertEqual(raised(lambda: toll_town.parts("b", "t", "ta")), ("InvalidWord", 0))
        self.assertEqual(raised(lambda: toll_town.parts("t", "b", "ta")), ("InvalidWord", 1))


class KeepsTest(unittest.TestCase):
    def fault_by_hand(self, toll_town, town):
        """Return the first rule and place from which the ends differ, step by step."""
        for number, rule in enumerate(town.rules()):
            for place in toll_town.table.places():
                ends = [end_by_hand(toll_town, side, town.letters, place) for side in rule]
                if ends[0] != ends[1]:
                    return number, place
        return None

    def test_by_hand(self):
        toll_town = TollTown(TWO, 3, [(0, 1), (0, 2)])
        kept = Town("ta", ("taT", "aa"), ("aaa", ""), ("tt", ""))
        self.assertEqual((toll_town.fault(kept), toll_town.keeps(kept)), (None, True))
        self.assertEqual((toll_town.fault(Town("ta")), toll_town.keeps(Town("ta"))), (None, True))
        for rule, place in [(("ta", "at"), (0, 0)), (("t", ""), (0, 0)), (("a", ""), (0, 0)), (("ttt", "TT"), (0, 0))]:
            town = kept.with_rules(rule, ("t", ""))
            self.assertEqual((toll_town.fault(town), toll_town.keeps(town)), ((3, place), False))

    def test_the_first_place(self):
        toll_town = TollTown(Table(1, [(3,)]), 2, [(0,), (1,), (0,)])
        self.assertEqual(toll_town.fault(Town("t", ("ttt", ""), ("t", "TT"))), (0, (0,)))
        self.assertEqual(TollTown(Table(2, [(3, 0), (0, 1)]), 2, [(0, 0), (0, 0), (0, 1)]).fault(Town("ta", ("a", ""))),
                         (0, (2, 0)))
        self.assertEqual(TollTown(Table(2, [(1, 0), (0, 2)]), 2, [(0, 0), (1, 0)]).fault(Town("ta", ("", ""), ("t", ""))),
                         (1, (0, 1)))

    def test_the_same_place_at_another_toll_and_another_place_at_the_same_toll(self):
        toll_town = TollTown(TWO, 3, [(0, 1), (0, 1)])
        self.assertEqual(toll_town.fault(Town("ta", ("a", ""))), (0, (0, 0)))
        self.assertEqual(toll_town.fault(Town("ta", ("t", ""))), (0, (0, 0)))
        self.assertIsNone(toll_town.fault(Town("ta", ("tt", ""))))

    def test_against_single_steps(self):
        source = random.Random(5)
        found = []
        for width, turn in itertools.product([1, 2, 3], range(80)):
            toll_town, letters = random_toll_town(source, width, most=4), LETTERS[width]
            rules = [(random_word(source, letters, 0, 3), random_word(source, letters, 0, 3)) for rule in range(3)]
            town = Town(letters, ("", ""), *rules[:source.randint(0, 3)])
            expected = self.fault_by_hand(toll_town, town)
            self.assertEqual(toll_town.fault(town), expected)
            self.assertIs(toll_town.keeps(town), expected is None)
            found.append(expected)
        self.assertGreater(found.count(None), 20)
        self.assertGreater(len({fault for fault in found if fault and any(fault[1])}), 3)

    def test_letters_may_have_other_names(self):
        toll_town = TollTown(TWO, 3, [(0, 1), (0, 2)])
        self.assertIs(toll_town.keeps(Town("zb", ("zbZ", "bb"))), True)

    def test_unlike(self):
        toll_town = TollTown(TWO, 3, [(0, 1), (0, 2)])
        for letters in ["t", "tab"]:
            for town in [Town(letters), Town(letters, ("t", ""))]:
                with self.assertRaises(Unlike):
                    toll_town.fault(town)
                with self.assertRaises(Unlike):
                    toll_town.keeps(town)


class EqualTest(unittest.TestCase):
    def test_equal_toll_towns(self):
        toll_town = TollTown(TWO, 3, [(0, 1), (0, 2)])
        other = TollTown(Table(2, [(0, -1), (2, 5)]), 3, ((0, 1), (0, 2)))
        self.assertIs(toll_town == other, True)
        self.assertIs(toll_town != other, False)
        for other in [TollTown(TWO, 4, [(0, 1), (0, 2)]), TollTown(TWO, 3, [(0, 2), (0, 1)]),
                      TollTown(TWO, 3, [(0, 1), (1, 2)]), TollTown(Table(2, [(1, 0), (0, 2)]), 3, [(0, 1), (0, 2)]),
                      TollTown(Table(2, [(1, 1), (0, 2)]), 3, [(0, 1), (0, 2)])]:
            self.assertIs(toll_town == other, False)
            self.assertIs(toll_town != other, True)

    def test_other_tables_with_the_same_names_of_places(self):
        one, other = (TollTown(Table(2, [row, (0, 2)]), 3, [(0, 1), (0, 2)]) for row in [(1, 0), (1, 1)])
        self.assertEqual(list(one.table.places()), list(other.table.places()))
        self.assertIs(one == other, False)

    def test_other_values(self):
        toll_town = TollTown(TWO, 3, [(0, 1), (0, 2)])
        for value in [None, 3, repr(toll_town), toll_town.tolls(), TWO, (TWO, 3, toll_town.tolls()), {}, TollTown]:
            self.assertIs(toll_town == value, False)
            self.assertIs(toll_town != value, True)
            self.assertIs(value == toll_town, False)

    def test_repr(self):
        self.assertEqual(repr(TollTown(TWO, 3, [(0, 1), (0, 2)])), "TollTown(2 places, modulus 3)")
        self.assertEqual(repr(TollTown(Table(1, [(1,)]), 1, [(0,)])), "TollTown(1 places, modulus 1)")
        self.assertEqual(repr(TollTown(Table(2, [(2, 1), (0, 3)]), 7, [(0, 0)] * 6)), "TollTown(6 places, modulus 7)")


class ArgumentsTest(unittest.TestCase):
    def test_keywords(self):
        toll_town = TollTown(tolls=[(0, 1), (0, 2)], modulus=3, table=TWO)
        self.assertEqual(toll_town, TollTown(TWO, 3, [(0, 1), (0, 2)]))
        self.assertEqual(toll_town.toll(letter=1, place=(1, 0)), 2)
        self.assertEqual(toll_town.end(letters="ta", word="a", start=(1, 0)), ((1, 0), 2))
        self.assertIs(toll_town.parts(letters="ta", other="", one="a"), True)
        self.assertIs(toll_town.keeps(town=Town("ta")), True)
        self.assertIsNone(toll_town.fault(town=Town("ta")))

    def test_tuples_where_lists_are_expected(self):
        self.assertEqual(TollTown(TWO, 3, ((0, 1), (0, 2))), TollTown(TWO, 3, [(0, 1), (0, 2)]))

    def test_lists_that_are_passed_and_returned(self):
        tolls = [(0, 1), (0, 2)]
        toll_town = TollTown(TWO, 3, tolls)
        self.assertEqual(tolls, [(0, 1), (0, 2)])
        tolls[0] = (2, 2)
        tolls.clear()
        found = toll_town.tolls()
        self.assertIs(type(found), list)
        self.assertEqual(found, [(0, 1), (0, 2)])
        found[1] = None
        found.append((0, 0))
        self.assertEqual(toll_town.tolls(), [(0, 1), (0, 2)])
        self.assertEqual((toll_town.toll((1, 0), 1), toll_town.size), (2, 2))
        found.clear()
        self.assertEqual(toll_town, TollTown(TWO, 3, [(0, 1), (0, 2)]))

    def test_what_is_returned_may_be_passed_back(self):
        source = random.Random(6)
        for width in [1, 2, 3]:
            toll_town = random_toll_town(source, width)
            self.assertEqual(TollTown(toll_town.table, toll_town.modulus, toll_town.tolls()), toll_town)
            place, toll = toll_town.end(LETTERS[width], LETTERS[width])
            self.assertEqual(toll_town.end("", LETTERS[width], start=place), (place, 0))
        with self.assertRaises(InvalidCounts):
            toll_town.end("", LETTERS[width], start=(place, toll))
