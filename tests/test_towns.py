"""Tests of towns: point 8 (letters, rules, tables), interface section roundswap/towns.py."""

import itertools
import random
import unittest

from reckoning import BIG, name_of, raised, random_rows, random_word, streets_by_steps, sum_by_steps
from roundswap.errors import InvalidCounts, InvalidWord, Unlike
from roundswap.tables import Table
from roundswap.towns import Town
from roundswap.walks import Walk

LETTERS = {1: "t", 2: "ta", 3: "xay"}
# Letters that are not valid, with the index of the first character that is not.
NO_LETTERS = [("", 0), ("A", 0), ("1", 0), (" ", 0), ("aa", 1), ("aA", 1), ("a b", 1), ("ab ", 2), ("aba", 2), ("ab;", 2),
              ("abcd", 3), ("abca", 3), ("abcA", 3), ("abc ", 3), ("a" * 9, 1), ("abb4", 2), ("{a", 0), ("`a", 0),
              ("a\n", 1), ("abcdefgh", 3)]
# Rules that are not valid for the letters "ab".
NO_RULES = [(), ("a",), ("a", "b", "a"), ("a", "b", "", ""), ("c", "a"), ("a", "c"), ("a b", ""), ("", "a1"), ("a^2", "b"),
            ("C", ""), ("a" * 17, ""), ("", "a" * 17), ("aB" * 9, "aB" * 9), ("a" * 60, "b"), ("a" * 20 + "?", "b")]
NO_PAIRS = [(), (1,), (1, 2, 3), (1, True), ("1", 2), (1, None), [1, 2], None]
SIX = [("a" * at, "b") for at in range(6)]


def random_town(source, width, most=6, longest=16):
    letters = LETTERS[width]
    rules = [(random_word(source, letters, 0, longest), random_word(source, letters, 0, longest))
             for at in range(source.randint(0, most))]
    return Town(letters, *rules)


def counts_by_hand(word, letters):
    return tuple(sum((sign == letter) - (sign == letter.upper()) for sign in word) for letter in letters)


class LettersTest(unittest.TestCase):
    def test_letters(self):
        for letters in ["a", "z", "ab", "ba", "zxy", "mno"]:
            town = Town(letters)
            self.assertEqual((town.letters, town.width, len(town), town.rules()), (letters, len(letters), 0, []))
            self.assertEqual(town.table, Table(len(letters)))

    def test_invalid_letters(self):
        for letters, at in NO_LETTERS:
            self.assertEqual(raised(lambda: Town(letters)), ("InvalidLetters", at), letters)

    def test_invalid_letters_come_ahead_of_invalid_rules(self):
        for letters, at in NO_LETTERS:
            self.assertEqual(raised(lambda: Town(letters, ("?",), *SIX, *SIX)), ("InvalidLetters", at), letters)


class RulesTest(unittest.TestCase):
    def test_rules_that_are_valid(self):
        for rule in [("", ""), ("a", "a"), ("a" * 16, "B" * 16), ("aAbB", ""), ("", "abAB" * 4)]:
            self.assertEqual(Town("ab", rule).rules(), [rule])

    def test_invalid_rules(self):
        for rule, at in itertools.product(NO_RULES, range(6)):
            rules = SIX[:at] + [rule]
            self.assertEqual(raised(lambda: Town("ab", *rules)), ("InvalidRule", at), rule)
            self.assertEqual(raised(lambda: Town("ab", *rules, ("?",), *SIX)), ("InvalidRule", at), rule)

    def test_rules_are_tuples(self):
        for rule in [["a", "b"], "ab", "a"]:
            self.assertEqual(raised(lambda: Town("ab", ("a", ""), rule)), ("InvalidRule", 1), rule)

    def test_a_seventh_rule(self):
        self.assertEqual(Town("ab", *SIX).rules(), SIX)
        self.assertEqual(raised(lambda: Town("ab", *SIX, ("a", "b"))), ("InvalidRule", 6))
        self.assertEqual(raised(lambda: Town("ab", *SIX, ("?",))), ("InvalidRule", 6))
        self.assertEqual(raised(lambda: Town("ab", *SIX[:4], (), *SIX)), ("InvalidRule", 4))
        self.assertEqual(raised(lambda: Town("ab", *[("a", "b")] * 400)), ("InvalidRule", 6))

    def test_rules_that_are_given_twice(self):
        rules = [("a", "b"), ("ab", "ba"), ("a", "b"), ("a", "b")]
        town = Town("ab", *rules)
        self.assertEqual((town.rules(), len(town)), (rules, 4))

    def test_letters_of_other_towns(self):
        self.assertEqual(Town("b", ("b", "BB")).rules(), [("b", "BB")])
        self.assertEqual(raised(lambda: Town("b", ("b", "a"))), ("InvalidRule", 0))

    def test_most(self):
        self.assertEqual(Town.MOST, 6)
        self.assertEqual(Town("a").MOST, 6)

    def test_table(self):
        self.assertEqual(Town("ta", ("taT", "aa")).table.rows(), [(0, 1)])
        self.assertEqual(Town("ab", ("aabb", "A"), ("", "bbbbbb")).table.rows(), [(3, 2), (0, 6)])
        self.assertEqual(Town("ab", ("abAB", ""), ("ab", "ba")).table.rows(), [])
        source = random.Random(1)
        for width, turn in itertools.product([1, 2, 3], range(20)):
            town = random_town(source, width)
            counts = [[counts_by_hand(side, town.letters) for side in rule] for rule in town.rules()]
            rows = [tuple(x - y for x, y in zip(one, other)) for one, other in counts]
            self.assertEqual(town.table, Table(width, rows))

    def test_values_cannot_be_assigned(self):
        town = Town("ab", ("a", "b"))
        for name in ["letters", "width", "table"]:
            with self.assertRaises(AttributeError):
                setattr(town, name, None)


class WordsTest(unittest.TestCase):
    def test_comes_round_and_place_of(self):
        town = Town("ab", ("aa", ""), ("bbb", "a"))
        # The rules make 6 places: a goes 3 of them ahead, and b goes 1.
        for word in itertools.chain.from_iterable(itertools.product("abAB", repeat=many) for many in range(5)):
            word = "".join(word)
            a, b = counts_by_hand(word, "ab")
            self.assertIs(town.comes_round(word), (3 * a + b) % 6 == 0, word)
            self.assertEqual(town.place_of(word), name_of(town.table.rows(), (a, b)))
        self.assertEqual([town.place_of("bbb"), town.place_of("a"), town.place_of("B")],
                         [town.table.place((1, 0)), town.table.place((1, 0)), town.table.place((0, -1))])

    def test_towns_without_rules(self):
        town = Town("ab")
        self.assertEqual([town.comes_round(word) for word in ["", "abAB", "a", "bA", "aAbB"]],
                         [True, True, False, False, True])
        self.assertEqual(town.place_of("aaB"), (2, -1))

    def test_random_towns(self):
        source = random.Random(2)
        for width, turn in itertools.product([1, 2, 3], range(30)):
            town, word = random_town(source, width, most=3, longest=6), random_word(source, LETTERS[width], 0, 12)
            rows, counts = town.table.rows(), counts_by_hand(word, town.letters)
            self.assertEqual(town.place_of(word), name_of(rows, counts))
            self.assertIs(town.comes_round(word), not any(name_of(rows, counts)))
            self.assertEqual(town.walk_of(word).streets(), streets_by_steps(rows, word, town.letters, (0,) * width))
            self.assertEqual(town.walk_of(word, start=None), town.walk_of(word))
            self.assertEqual(town.walk_of(word).table, town.table)
            for start in random_rows(source, width, 2, 9):
                walk = town.walk_of(word, start=start)
                self.assertEqual(walk.streets(), streets_by_steps(rows, word, town.letters, start))

    def test_invalid_words(self):
        town = Town("ab", ("aa", "b"))
        for word in ["c", "abC", " ", "a^2", "ab1"]:
            for call in [town.comes_round, town.place_of, town.walk_of, lambda word: town.walk_of(word, start=(None,))]:
                with self.assertRaises(InvalidWord) as caught:
                    call(word)
                self.assertEqual(caught.exception.at, 0)

    def test_invalid_starts(self):
        for start in NO_PAIRS[:-1]:
            with self.assertRaises(InvalidCounts):
                Town("ab", ("aa", "b")).walk_of("ab", start=start)

    def test_start_is_for_keywords_only(self):
        with self.assertRaises(TypeError):
            Town("ab").walk_of("a", (0, 0))


class MovedRuleTest(unittest.TestCase):
    def test_by_hand(self):
        town = Town("ta", ("taT", "aa"), ("", "A"))
        self.assertEqual(town.moved_rule(0, (0, 0)).streets(), [((0, 0), 1, -2), ((1, 0), 1, 1)])
        self.assertEqual(town.moved_rule(0, (5, -7)).streets(), [((5, 0), 1, -2), ((6, 0), 1, 1)])
        self.assertEqual(town.moved_rule(1, (2, 0)).streets(), [((2, 0), 1, 1)])

    def test_against_single_steps(self):
        source = random.Random(3)
        for width, turn in itertools.product([1, 2, 3], range(30)):
            town = random_town(source, width, most=4)
            for number, counts in zip(range(len(town)), random_rows(source, width, 4, 9)):
                numbers = sum_by_steps(town.table.rows(), town.rules(), town.letters, [(counts, number, 1)])
                walk = town.moved_rule(number, counts)
                self.assertEqual(walk, Walk(town.table, [(place, at, n) for (place, at), n in numbers.items()]))
                self.assertEqual(walk.ends(), [])

    def test_numbers_of_30_digits(self):
        walk = Town("ta", ("ttt", "")).moved_rule(0, (3 * BIG + 1, -BIG))
        self.assertEqual(walk.streets(), [((0, -BIG), 0, 1), ((1, -BIG), 0, 1), ((2, -BIG), 0, 1)])

    def test_errors_in_order(self):
        town = Town("ab", ("aa", "b"), ("a", "a"))
        for number, counts in itertools.product([-1, 2, 3, -2, BIG, True, False], [(0, 0), (None,), ()]):
            found = raised(lambda: town.moved_rule(number, counts))
            self.assertEqual(found, ("UnknownRule", number))
            self.assertIs(type(found[1]), type(number))
        for number, counts in itertools.product([0, 1], NO_PAIRS):
            self.assertEqual(raised(lambda: town.moved_rule(number, counts)), ("InvalidCounts",))
        self.assertEqual(raised(lambda: Town("ab").moved_rule(0, (0, 0))), ("UnknownRule", 0))


class ChangedTownsTest(unittest.TestCase):
    def test_with_rules(self):
        town = Town("ab", ("a", "b"), ("ab", ""))
        self.assertEqual(town.with_rules(("a", "b"), ("", "")), Town("ab", ("a", "b"), ("ab", ""), ("a", "b"), ("", "")))
        self.assertEqual(town.with_rules(), town)
        self.assertEqual(town, Town("ab", ("a", "b"), ("ab", "")))
        self.assertEqual(town.with_rules(("bbb", "")).table, Table(2, [(1, -1), (1, 1), (0, 3)]))
        self.assertEqual(town.table, Table(2, [(1, -1), (1, 1)]))

    def test_with_rules_that_are_not_valid(self):
        town = Town("ab", *SIX[:2])
        for rule, at in itertools.product(NO_RULES, range(4)):
            more = SIX[:at] + [rule]
            self.assertEqual(raised(lambda: town.with_rules(*more, ())), ("InvalidRule", 2 + at), rule)
        self.assertEqual(raised(lambda: town.with_rules(*SIX)), ("InvalidRule", 6))
        self.assertEqual(raised(lambda: Town("ab", *SIX).with_rules(("a", "b"))), ("InvalidRule", 6))
        self.assertEqual(len(town.with_rules(*SIX[:4])), 6)
        self.assertEqual(town, Town("ab", *SIX[:2]))

    def test_without(self):
        town = Town("ab", *SIX)
        for number in range(6):
            self.assertEqual(town.without(number), Town("ab", *SIX[:number], *SIX[number + 1:]))
        self.assertEqual(town, Town("ab", *SIX))
        self.assertEqual(Town("ab", ("a", "b"), ("a", "b"), ("", "")).without(1), Town("ab", ("a", "b"), ("", "")))
        self.assertEqual(Town("ab", ("a", "b")).without(0).table, Table(2))

    def test_without_unknown_rules(self):
        for many, number in itertools.product([0, 1, 3], [-1, 3, 4, -3, BIG, -BIG, True, False]):
            found = raised(lambda: Town("ab", *SIX[:many]).without(number))
            self.assertEqual(found, ("UnknownRule", number))
            self.assertIs(type(found[1]), type(number))

    def test_joined(self):
        one, other = Town("ab", ("a", "b"), ("ab", "")), Town("ab", ("", ""), ("a", "b"), ("b", "a"))
        self.assertEqual(one.joined(other), Town("ab", ("a", "b"), ("ab", ""), ("", ""), ("b", "a")))
        self.assertEqual(other.joined(one), Town("ab", ("", ""), ("a", "b"), ("b", "a"), ("ab", "")))
        self.assertEqual(one.joined(one), one)
        self.assertEqual(one.joined(Town("ab")), one)
        self.assertEqual(Town("ab").joined(one), one)
        self.assertEqual((one, other), (Town("ab", ("a", "b"), ("ab", "")), Town("ab", ("", ""), ("a", "b"), ("b", "a"))))

    def test_joined_with_rules_that_are_given_twice(self):
        twice = Town("ab", ("a", "b"), ("a", "b"), ("", ""))
        self.assertEqual(Town("ab", ("ab", "")).joined(twice), Town("ab", ("ab", ""), ("a", "b"), ("", "")))
        self.assertEqual(twice.joined(Town("ab", ("", ""), ("b", ""), ("b", ""))), twice.with_rules(("b", "")))
        self.assertEqual(twice.joined(twice), twice)

    def test_joined_with_too_many_rules(self):
        one = Town("ab", *SIX[:4])
        self.assertEqual(len(one.joined(Town("ab", *SIX[2:]))), 6)
        self.assertEqual(raised(lambda: one.joined(Town("ab", *SIX[3:], ("", "")))), ("InvalidRule", 6))
        more = [("b" * at, "") for at in range(5)]
        self.assertEqual(raised(lambda: Town("ab", *SIX).joined(Town("ab", *more))), ("InvalidRule", 6))
        self.assertEqual(one, Town("ab", *SIX[:4]))

    def test_joined_with_other_letters(self):
        more = [("a", ""), ("", "a")]
        for one, other in [("a", "ab"), ("ab", "ba"), ("ab", "ac"), ("abc", "ab")]:
            with self.assertRaises(Unlike):
                Town(one, *more * 3).joined(Town(other, ("a", "aa"), *more))


class EqualTest(unittest.TestCase):
    def test_equal_towns(self):
        town = Town("ab", ("a", "b"), ("ab", ""))
        self.assertIs(town == Town("ab", ("a", "b"), ("ab", "")), True)
        self.assertIs(town != Town("ab", ("a", "b"), ("ab", "")), False)
        for other in [Town("ab"), Town("ab", ("ab", ""), ("a", "b")), Town("ba", ("a", "b"), ("ab", "")),
                      Town("abc", ("a", "b"), ("ab", "")), Town("ab", ("a", "b")), Town("ab", ("b", "a"), ("ab", "")),
                      Town("ab", ("a", "b"), ("ab", ""), ("ab", ""))]:
            self.assertIs(town == other, False)
            self.assertIs(town != other, True)
        self.assertIs(Town("a") == Town("b"), False)

    def test_other_values(self):
        for town in [Town("ab"), Town("ab", ("a", "b"))]:
            for value in [None, 0, "ab", town.text(), [], town.rules(), ("ab", ("a", "b")), town.table, {}, Town]:
                self.assertIs(town == value, False)
                self.assertIs(town != value, True)
                self.assertIs(value == town, False)

    def test_repr_and_length(self):
        for letters, many in itertools.product(["a", "ab", "abc"], [0, 1, 2, 6]):
            town = Town(letters, *[("a", "")] * many)
            self.assertEqual((repr(town), len(town)), (f"Town({len(letters)} letters, {many} rules)", many))


class ArgumentsTest(unittest.TestCase):
    def test_keywords(self):
        town = Town("ab", ("aa", "b"))
        self.assertEqual(Town(letters="ab"), Town("ab"))
        self.assertIs(town.comes_round(word="aaB"), True)
        self.assertEqual(town.place_of(word="a"), (1, 0))
        self.assertEqual(town.walk_of(word="a", start=(0, 1)), town.walk_of("a", start=(2, 0)))
        self.assertEqual(town.moved_rule(counts=(0, 1), number=0), town.moved_rule(0, (2, 0)))
        self.assertEqual(town.without(number=0), Town("ab"))
        self.assertEqual(town.joined(other=town), town)
        self.assertEqual(Town.read(text="ab; a^2 = b"), town)

    def test_lists_that_are_returned(self):
        town = Town("ab", ("a", "b"), ("ab", ""))
        for some in [town, town.with_rules(), town.joined(town), Town("ab", ("", "")).joined(town).without(0)]:
            found = some.rules()
            self.assertIs(type(found), list)
            found.append(("?",))
            found[0] = None
            self.assertEqual(some.rules(), [("a", "b"), ("ab", "")])
            found.clear()
            self.assertEqual(len(some), 2)
            some.table.rows().clear()
            self.assertEqual(some.table.size, 2)

    def test_lists_that_are_passed(self):
        rules = [("a", "b"), ("ab", "")]
        town = Town("ab", *rules)
        more = town.with_rules(*rules)
        rules[0] = ("", "")
        rules.clear()
        self.assertEqual(town.rules(), [("a", "b"), ("ab", "")])
        self.assertEqual(more.rules(), [("a", "b"), ("ab", "")] * 2)

    def test_what_is_returned_may_be_passed_back(self):
        town = Town("ab", ("aab", "b"), ("ab", ""))
        self.assertEqual(Town(town.letters, *town.rules()), town)
        self.assertEqual(town.walk_of("ab", start=town.place_of("ba")), town.walk_of("ab"))
