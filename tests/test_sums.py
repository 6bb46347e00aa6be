"""Tests of sums for two words: point 9, interface section roundswap/sums.py."""

import itertools
import random
import unittest

from reckoning import BIG, name_of, path_to, raised, random_word, sum_by_steps, walk_by_steps
from roundswap.sums import is_sum, size_of_sum, sum_within
from roundswap.tables import tables_of
from roundswap.tolls import TollTown
from roundswap.towns import Town

LETTERS = {1: "t", 2: "ta", 3: "xay"}
DOUBLING = Town("ta", ("taT", "aa"))
ROWS = [((1, 0), 0, 1), ((0, 0), 0, 2)]


def opposite(word):
    return word[::-1].swapcase()


def distance(place):
    return sum(abs(number) for number in place)


def tuples_within(width, reach):
    numbers = range(-reach, reach + 1)
    return [place for place in itertools.product(numbers, repeat=width) if distance(place) <= reach]


def is_sum_by_hand(town, one, other, rows):
    """Return whether rows of the right form are a sum, all walks step by step."""
    normal, zeros = town.table.rows(), (0,) * town.width
    walk = walk_by_steps(normal, one, town.letters, zeros)
    for street, number in walk_by_steps(normal, other, town.letters, zeros).items():
        walk[street] = walk.get(street, 0) - number
    walk = {street: number for street, number in walk.items() if number != 0}
    ends = [name_of(normal, [word.count(letter) - word.count(letter.upper()) for letter in town.letters])
            for word in (one, other)]
    return ends[0] == ends[1] and walk == sum_by_steps(normal, town.rules(), town.letters, rows)


def word_with(town, rows):
    """Return a word that has these rows as a sum with the empty word."""
    word = ""
    for place, number, count in rows:
        path = path_to(place, town.letters)
        one, other = town.rules()[number]
        loop = one + opposite(other)
        word += path + (loop if count > 0 else opposite(loop)) * abs(count) + opposite(path)
    return word


def random_town(source, width, most=3, longest=3):
    letters = LETTERS[width]
    rules = [(random_word(source, letters, 0, longest), random_word(source, letters, 0, longest))
             for rule in range(source.randint(1, most))]
    return Town(letters, *rules)


def closed_town(source, width, most=3):
    """Return a town whose rules have the same counts on both sides, so that its table has no rows."""
    rules = []
    for rule in range(source.randint(1, most)):
        one = random_word(source, LETTERS[width], 2, 5)
        rules.append((one, "".join(source.sample(one, len(one)))))
    return Town(LETTERS[width], *rules)


def random_sum(source, town, reach, many):
    places = tuples_within(town.width, reach)
    numbers = range(len(town))
    return [(source.choice(places), source.choice(numbers), source.choice([-2, -1, 1, 2])) for row in range(many)]


class IsSumTest(unittest.TestCase):
    def test_right_sums(self):
        self.assertIs(is_sum(DOUBLING, "ttaTT", "aaaa", ROWS), True)
        self.assertIs(is_sum(DOUBLING, "ttaTT", "aaaa", ROWS[::-1]), True)
        self.assertIs(is_sum(DOUBLING, "ttaTT", "aaaa", tuple(ROWS)), True)
        self.assertIs(is_sum(DOUBLING, "ttaTT", "aaaa", [ROWS[0], ((0, 7), 0, 1), ((0, -BIG), 0, 1)]), True)
        self.assertIs(is_sum(DOUBLING, "ttaTT", "aaaa", [*ROWS, ((5, 5), 0, BIG), ((5, 6), 0, -BIG)]), True)
        self.assertIs(is_sum(DOUBLING, "aaaa", "ttaTT", [(place, number, -count) for place, number, count in ROWS]), True)

    def test_words_with_one_walk(self):
        for one, other in [("", ""), ("tT", ""), ("aA", "TtAa"), ("taTtata", "taata")]:
            self.assertIs(is_sum(DOUBLING, one, other, []), True)
            self.assertIs(is_sum(DOUBLING, one, other, [((0, 0), 0, 1)]), False)
            self.assertIs(is_sum(Town("ta"), one, other, ()), True)

    def test_rows_that_are_bent_dropped_or_doubled(self):
        for rows in [
            [], ROWS[:1], ROWS[1:], [*ROWS, ROWS[0]], [*ROWS, ROWS[1]], [ROWS[0], ((0, 0), 0, 1)], [ROWS[0], ((0, 0), 0, 3)],
            [ROWS[0], ((0, 0), 0, -2)], [((1, 0), 0, -1), ROWS[1]], [((2, 0), 0, 1), ROWS[1]], [((-1, 0), 0, 1), ROWS[1]],
            [((0, 0), 0, 1), ((1, 0), 0, 2)], [((1, 0), 0, 2), ((0, 0), 0, 4)],
        ]:
            self.assertIs(is_sum(DOUBLING, "ttaTT", "aaaa", rows), False, rows)
        self.assertIs(is_sum(DOUBLING, "ttaTT", "aaa", ROWS), False)
        self.assertIs(is_sum(DOUBLING, "aaaa", "ttaTT", ROWS), False)

    def test_rows_that_are_no_rows(self):
        for row in [((0, 0), 0, 0), ((0, 0), 1, 1), ((0, 0), -1, 1), ((0, 0), BIG, 1), ((), 0, 1), ((0,), 0, 1),
                    ((0, 0, 0), 0, 1), ((0, 0) * 9, 0, 1), ((0, 0), 0, True), ((0, 0), False, 1), ((False, 0), 0, 1)]:
            opposites = row[:2] + (-row[2],)
            for rows in [[*ROWS, row], [row, *ROWS], [ROWS[0], row, ROWS[1]], [*ROWS, row, opposites]]:
                self.assertIs(is_sum(DOUBLING, "ttaTT", "aaaa", rows), False, row)
            self.assertIs(is_sum(DOUBLING, "", "", [row]), False, row)
        self.assertIs(is_sum(Town("ta"), "", "", [((0, 0), 0, 1), ((0, 0), 0, -1)]), False)

    def test_words_that_end_at_different_places(self):
        for one, other in [("t", ""), ("ttaTT", "taaaa"), ("", "T"), ("tta", "aaaat")]:
            for rows in [[], ROWS]:
                self.assertIs(is_sum(DOUBLING, one, other, rows), False)

    def test_words_that_end_at_one_place_only_in_the_table(self):
        town = Town("ab", ("aab", "b"), ("b", "aaaaaB"))
        self.assertIs(is_sum(town, "aab", "b", [((0, 0), 0, 1)]), True)
        self.assertIs(is_sum(town, "Baab", "", [((0, -1), 0, 1)]), True)

    def test_against_single_steps(self):
        source = random.Random(1)
        found = []
        for width, turn in itertools.product([1, 2, 3], range(60)):
            town = random_town(source, width) if turn % 2 else closed_town(source, width)
            rows = random_sum(source, town, 3, source.randint(0, 3))
            one = word_with(town, rows)
            self.assertIs(is_sum(town, one, "", rows), True)
            common = random_word(source, town.letters, 0, 5)
            self.assertIs(is_sum(town, one + common, common, rows), True)
            others = rows + random_sum(source, town, 1, source.randint(0, 2))
            expected = is_sum_by_hand(town, one, "", others)
            self.assertIs(is_sum(town, one, "", others), expected)
            found.append(expected)
        self.assertGreater(found.count(False), 40)

    def test_invalid_words(self):
        for rows in [ROWS, [((), 9, 0)]]:
            self.assertEqual(raised(lambda: is_sum(DOUBLING, "x", "?", rows)), ("InvalidWord", 0))
            self.assertEqual(raised(lambda: is_sum(DOUBLING, "t", "b", rows)), ("InvalidWord", 1))

    def test_many_rows(self):
        rows = [((at, 0), 0, 1) for at in range(200)] + [((at, 0), 0, -1) for at in range(200)]
        self.assertIs(is_sum(DOUBLING, "", "", rows), True)
        self.assertIs(is_sum(DOUBLING, "", "", rows[:-1]), False)

    def test_arguments(self):
        rows = list(ROWS)
        self.assertIs(is_sum(rows=rows, other="aaaa", one="ttaTT", town=DOUBLING), True)
        self.assertEqual(rows, ROWS)


class SizeTest(unittest.TestCase):
    def test_sizes(self):
        for rows, size in [([], 0), (ROWS, 4), ([((0, 0), 0, 1)], 1), ([((0,), 3, -5)], 5), ([((-2, 3, -4), 1, -7)], 70),
                           ([((1, 1), 0, 1), ((1, 1), 0, -1)], 6)]:
            self.assertEqual(size_of_sum(rows), size)
            self.assertEqual(size_of_sum(tuple(rows)), size)
        self.assertEqual(size_of_sum([((BIG, -BIG), 0, -BIG)]), BIG * (2 * BIG + 1))
        self.assertEqual(size_of_sum(rows=ROWS), 4)


class SumWithinTest(unittest.TestCase):
    def assert_right(self, town, one, other, reach):
        """Check that a sum is told, that it is right and that it is within the reach."""
        rows = sum_within(town, one, other, reach)
        self.assertIs(type(rows), list, (town.text(), one, other, reach))
        self.assertTrue(all(distance(place) <= reach for place, number, count in rows))
        self.assertTrue(all(len(place) == town.width and count != 0 for place, number, count in rows))
        self.assertTrue(is_sum_by_hand(town, one, other, rows))
        self.assertIs(is_sum(town, one, other, rows), True)

    def test_sums_that_need_a_reach(self):
        town = Town("ab", ("abAB", ""))
        for near in range(6):
            for place in [(near, 0), (0, -near), (-near, 0)]:
                path = path_to(place, "ab")
                word = path + "abAB" + opposite(path)
                for reach in range(5):
                    expected = [(place, 0, 1)] if near <= reach else None
                    self.assertEqual(sum_within(town, word, "", reach), expected)
        self.assertIsNone(sum_within(DOUBLING, "ttaTT", "aaaa", 0))
        self.assertEqual(sorted(sum_within(DOUBLING, "ttaTT", "aaaa", 1)), sorted(ROWS))

    def test_sums_that_were_built(self):
        source = random.Random(2)
        for width, reach, turn in itertools.product([1, 2, 3], range(5), range(6)):
            town = random_town(source, width) if turn % 2 else closed_town(source, width)
            rows = random_sum(source, town, reach, source.randint(0, 3))
            word, common = word_with(town, rows), random_word(source, town.letters, 0, 4)
            self.assert_right(town, word, "", reach)
            self.assert_right(town, common, opposite(word) + common, reach)

    def test_sums_that_need_several_rules(self):
        town = Town("ab", ("abAB" * 2, ""), ("abAB" * 3, ""))
        self.assert_right(town, "abAB", "", 0)
        town = Town("ab", ("abAB" * 4, ""), ("abAB" * 3, "baBA" * 3))
        self.assert_right(town, "abABabAB", "", 0)
        self.assertIsNone(sum_within(town, "abAB", "", 4))
        town = Town("ab", ("abAB" * 3, "babABB" + "babABB"), ("abAB", "aabABA" + "aabABA"))
        word = word_with(town, [((1, 1), 0, 2), ((0, 2), 1, -3), ((-1, 1), 1, 1)])
        self.assert_right(town, word, "", 2)
        self.assert_right(town, word, "", 4)

    def test_numbers_that_are_not_whole(self):
        for power in [2, 3, 4]:
            town = Town("ab", ("abAB" * power, ""))
            for many in range(9):
                for reach in [0, 4]:
                    expected = many % power == 0
                    self.assertIs(sum_within(town, "abAB" * many, "", reach) is not None, expected)

    def test_none_where_a_toll_town_parts_the_words(self):
        source = random.Random(3)
        parted = 0
        for width, turn in itertools.product([1, 2, 3], range(30)):
            town = random_town(source, width) if turn % 3 else closed_town(source, width)
            one, other = (random_word(source, town.letters, 0, 4) for word in range(2))
            if self.is_parted(town, one, other):
                parted += 1
                for reach in range(5):
                    self.assertIsNone(sum_within(town, one, other, reach), (town.text(), one, other))
        self.assertGreater(parted, 20)

    def is_parted(self, town, one, other):
        """Return whether some small toll town of the town parts the words."""
        for size, modulus in [(1, 2), (2, 2), (1, 3), (1, 5), (2, 3)]:
            rows = list(itertools.product(range(modulus), repeat=town.width))
            for table in tables_of(town.table, size):
                for tolls in itertools.product(rows, repeat=size):
                    toll_town = TollTown(table, modulus, tolls)
                    if toll_town.parts(one, other, town.letters) and toll_town.keeps(town):
                        return True
        return False

    def test_words_with_one_walk(self):
        for reach in range(5):
            self.assertEqual(sum_within(DOUBLING, "taTtA", "taA", reach), [])
            self.assertEqual(sum_within(Town("ab"), "abABbaBA", "baBAabAB", reach), [])

    def test_words_that_end_at_different_places(self):
        for reach in range(5):
            self.assertIsNone(sum_within(DOUBLING, "t", "", reach))
            self.assertIsNone(sum_within(Town("ab", ("aa", "")), "aaa", "", reach))

    def test_towns_without_rules(self):
        for reach in range(5):
            self.assertIsNone(sum_within(Town("ab"), "abAB", "", reach))
            self.assertIsNone(sum_within(Town("ab"), "a", "b", reach))
            self.assertIsNone(sum_within(Town("ab", ("", ""), ("ab", "ab")), "abAB", "", reach))

    def test_places_that_are_reached_by_several_tuples(self):
        town = Town("ab", ("aaaaa", ""), ("ab", "ba"))
        for turn in range(10):
            word = "a" * turn + "abAB" + "A" * turn
            self.assert_right(town, word, "", 2)
            place = [0, 1, 2, -2, -1][turn % 5]
            self.assertIs(sum_within(town, word, "", 1) is None, abs(place) > 1)

    def test_most_rules_of_the_greatest_length(self):
        source = random.Random(4)
        rules = []
        for rule in range(6):
            one = random_word(source, "abc", 16, 16)
            rules.append((one, "".join(source.sample(one, 16))))
        town = Town("abc", *rules)
        rows = random_sum(source, town, 4, 2)
        self.assert_right(town, word_with(town, rows), "", 4)
        self.assertIsNone(sum_within(town, "a" * 60, "", 4))

    def test_errors_in_order(self):
        for reach in [-1, 5, BIG, True, False, 0]:
            self.assertEqual(raised(lambda: sum_within(DOUBLING, "x", "?", reach)), ("InvalidWord", 0))
            self.assertEqual(raised(lambda: sum_within(DOUBLING, "t", "?", reach)), ("InvalidWord", 1))
        for reach in [-1, 5, BIG, -BIG, True, False]:
            for one, other in [("t", ""), ("", ""), ("ttaTT", "aaaa")]:
                found = raised(lambda: sum_within(DOUBLING, one, other, reach))
                self.assertEqual(found, ("InvalidNumber", reach))
                self.assertIs(type(found[1]), type(reach))

    def test_equal_calls_return_equal_new_lists(self):
        first = sum_within(DOUBLING, "ttaTT", "aaaa", 2)
        second = sum_within(reach=2, other="aaaa", one="ttaTT", town=DOUBLING)
        self.assertEqual(first, second)
        first.clear()
        self.assertEqual(sum_within(DOUBLING, "ttaTT", "aaaa", 2), second)

    def test_what_is_returned_may_be_passed_back(self):
        town = Town("ab", ("abAB" * 4, ""), ("abAB" * 3, "babABB" * 2))
        rows = sum_within(town, word_with(town, [((1, 1), 0, 2), ((0, 2), 1, -3)]), "", 4)
        self.assertGreater(size_of_sum(rows), 0)
        self.assertIs(is_sum(town, word_with(town, rows), "", rows), True)
