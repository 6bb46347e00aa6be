"""Tests of verdicts: points 8 to 12, interface section roundswap/verdicts.py."""

import itertools
import random
import unittest

from reckoning import (all_toll_lists, is_kept_by_steps, is_parted_by_steps, is_sum_by_steps, least_by_search,
                       normal_tables, raised, random_level_rule, random_rule, random_word, steps_away, walk_by_steps)
from roundswap.tables import Table
from roundswap.tolls import TollTown
from roundswap.towns import Town
from roundswap.verdicts import Even, Parted, Verdict, commute, decide, is_even, least_power, unlike_rule

LETTERS = {1: "t", 2: "ta", 3: "xay"}


def random_town(source, width, many, most, *, level=False):
    draw = random_level_rule if level else random_rule
    return Town(LETTERS[width], *[draw(source, LETTERS[width], most) for rule in range(many)])


class VerdictCase(unittest.TestCase):
    def look_at(self, verdict, town, one, other):
        """Check the certificate of a verdict, and return whether it is even."""
        self.assertEqual((verdict.town, verdict.one, verdict.other), (town, one, other))
        case = (town.text(), one, other)
        if isinstance(verdict, Even):
            self.assertTrue(is_sum_by_steps(town, one, other, verdict.rows()), case)
            self.assertEqual((verdict.told(), repr(verdict), bool(verdict)), ("even", "Even(even)", True))
            return True
        self.assertIsInstance(verdict, Parted)
        barrier = verdict.toll_town
        rows, modulus = barrier.table.rows(), barrier.modulus
        tolls = dict(zip(barrier.table.places(), barrier.tolls()))
        self.assertTrue(is_kept_by_steps(town, rows, modulus, tolls), case)
        self.assertTrue(is_parted_by_steps(town.letters, rows, modulus, tolls, one, other), case)
        told = f"parted: {len(tolls)} places, modulus {modulus}"
        self.assertEqual((verdict.told(), repr(verdict), bool(verdict)), (told, f"Parted({told})", False))
        return False

    def decided(self, town, one, other):
        return self.look_at(decide(town, one, other), town, one, other)


class DecideTest(VerdictCase):
    def test_drawn_towns_and_words(self):
        source = random.Random(1)
        found = []
        for width, many, most, level in itertools.product([1, 2, 3], [0, 1, 2, 6], [2, 5, 9], [False, True]):
            for turn in range(4):
                town = random_town(source, width, many, most, level=level)
                one = random_word(source, town.letters, 0, 10)
                other = "".join(source.sample(one, len(one))) if turn % 2 else random_word(source, town.letters, 0, 10)
                found.append(self.decided(town, one, other))
                self.assertEqual(is_even(town, one, other), found[-1])
        self.assertGreater(found.count(True), 60)
        self.assertGreater(found.count(False), 60)

    def test_words_behind_steps_are_even(self):
        source = random.Random(2)
        kinds = set()
        for width, many, most, level in itertools.product([1, 2, 3], [0, 1, 2, 6], [3, 8, 16], [False, True]):
            town = random_town(source, width, many, most, level=level)
            one = random_word(source, town.letters, 0, 12)
            other, taken = steps_away(source, town, one, 15, 60)
            kinds |= {step[0] for step in taken}
            self.assertTrue(self.decided(town, one, other), (town.text(), one, other))
        self.assertEqual(kinds, {"put", "drop", "rule", "swap"})

    def test_words_that_a_drawn_toll_town_parts(self):
        source = random.Random(3)
        parted = 0
        for width, many, index, modulus in [(1, 1, 3, 2), (1, 2, 2, 4), (2, 1, 2, 2), (2, 2, 1, 5), (2, 1, 2, 3),
                                            (2, 0, 3, 2), (3, 1, 1, 4), (3, 2, 2, 2)] * 4:
            town = random_town(source, width, many, 4, level=source.choice([True, False]))
            rows = source.choice(normal_tables(width, index))
            kept = [tolls for tolls in all_toll_lists(rows, modulus) if is_kept_by_steps(town, rows, modulus, tolls)]
            one, other = random_word(source, town.letters, 0, 8), random_word(source, town.letters, 0, 8)
            if kept and is_parted_by_steps(town.letters, rows, modulus, source.choice(kept), one, other):
                self.assertFalse(self.decided(town, one, other))
                parted += 1
        self.assertGreater(parted, 8)

    def test_towns_without_rules(self):
        source = random.Random(4)
        for width in [1, 2, 3]:
            town, start = Town(LETTERS[width]), (0,) * width
            for turn in range(30):
                one = random_word(source, town.letters, 0, 9)
                other = steps_away(source, town, one, 6, 30)[0] if turn % 2 else "".join(source.sample(one, len(one)))
                same = walk_by_steps([], one, town.letters, start) == walk_by_steps([], other, town.letters, start)
                self.assertEqual(self.decided(town, one, other), same)

    def test_letters_that_commute(self):
        source = random.Random(5)
        town = Town("xay", ("xa", "ax"), ("xy", "yx"), ("ay", "ya"))
        for turn in range(20):
            one = random_word(source, "xay", 0, 20)
            other = "".join(source.sample(one, len(one)))
            self.assertTrue(self.decided(town, one, other))
            self.assertFalse(self.decided(town, one + source.choice("xay"), other))
        self.assertTrue(self.decided(Town("ab", ("ab", "ba")), "a" * 30 + "b" * 30, "b" * 30 + "a" * 30))
        self.assertFalse(self.decided(Town("abc", ("ab", "ba"), ("bc", "cb")), "ac", "ca"))

    def test_powers_of_a_letter(self):
        for power, exponent in itertools.product([1, 2, 3, 6, 16], [0, 1, 2, 6, 9, 12, 48]):
            town = Town("a", ("a" * power, ""))
            self.assertEqual(self.decided(town, "a" * exponent, ""), exponent % power == 0)
            town = Town("ab", ("a" * power, ""))
            self.assertEqual(self.decided(town, "b" + "a" * exponent + "B", ""), exponent % power == 0)
            self.assertEqual(self.decided(town, "b" + "a" * exponent, "a" * exponent + "b"), exponent % power == 0)

    def test_letters_that_multiply(self):
        for power in [2, 3, 5, 14]:
            town = Town("ta", ("t" + "a" * power + "T", "a"))
            self.assertTrue(self.decided(town, "T" + "a" + "t", "a" * power))
            self.assertFalse(self.decided(town, "T" + "a" + "t", "a"))
            self.assertTrue(self.decided(town, "tt" + "a" * power * power + "TT", "a"))
            self.assertFalse(self.decided(town, "a" * (power * power - 1), ""))
        town = Town("ta", ("taT", "aa"))
        self.assertTrue(self.decided(town, "t" * 28 + "a" + "T" * 28, "t" * 26 + "aaaa" + "T" * 26))
        self.assertFalse(self.decided(town, "t" * 28 + "a" + "T" * 28, "t" * 26 + "aaa" + "T" * 26))

    def test_rules_that_make_everything_even(self):
        source = random.Random(6)
        town = Town("xay", ("xa", "ax"), ("x", ""), ("ay", ""), ("ya", "a"))
        for turn in range(10):
            self.assertTrue(self.decided(town, random_word(source, "xay", 0, 60), random_word(source, "xay", 0, 60)))

    def test_long_words(self):
        source = random.Random(7)
        for width, many in itertools.product([1, 2, 3], [0, 1, 2, 6]):
            town = random_town(source, width, many, 16)
            one = random_word(source, town.letters, 60, 60)
            self.decided(town, one, random_word(source, town.letters, 60, 60))
            self.assertTrue(self.decided(town, one * 4, one * 4))

    def test_other_names_of_letters(self):
        source = random.Random(8)
        for width, many, turn in itertools.product([2, 3], [1, 2, 6], range(3)):
            town = random_town(source, width, many, 6)
            names = str.maketrans(town.letters + town.letters.upper(), "zkb"[:width] + "ZKB"[:width])
            renamed = Town("zkb"[:width], *[(one.translate(names), other.translate(names)) for one, other in town.rules()])
            one, other = random_word(source, town.letters, 0, 8), random_word(source, town.letters, 0, 8)
            self.assertEqual(decide(town, one, other).told(),
                             decide(renamed, one.translate(names), other.translate(names)).told())

    def test_equal_calls_return_equal_results(self):
        town = Town("ta", ("taT", "aa"), ("ttt", ""))
        self.assertEqual(decide(town, "ta", "aat").rows(), decide(town, "ta", "aat").rows())
        self.assertEqual(decide(town, "a", "t").toll_town, decide(town, "a", "t").toll_town)


class LeastTest(VerdictCase):
    def look_for_least(self, town, one, other, most):
        verdict = decide(town, one, other)
        self.look_at(verdict, town, one, other)
        least = least_by_search(town, one, other, most)
        if isinstance(verdict, Even):
            self.assertIsNone(least)
            return None
        barrier = verdict.toll_town
        if least is None:
            self.assertGreater(barrier.size + barrier.modulus, most)
        else:
            self.assertEqual((barrier.size, barrier.modulus, barrier.table.rows()), least, (town.text(), one, other))
        return least

    def test_against_a_search_through_everything(self):
        source = random.Random(9)
        found = set()
        for width, most, turns in [(1, 8, 40), (2, 5, 60), (2, 6, 12), (3, 4, 20), (3, 5, 4)]:
            for turn in range(turns):
                town = random_town(source, width, turn % 3, 4, level=turn % 2 == 0)
                one = random_word(source, town.letters, 0, 7)
                other = "".join(source.sample(one, len(one))) if turn % 4 else random_word(source, town.letters, 0, 7)
                least = self.look_for_least(town, one, other, most)
                found.add(least and (width, least[0], least[1]))
        self.assertGreater(len(found), 8)

    def test_powers(self):
        for exponent in [1, 2, 3, 4, 6, 12]:
            self.look_for_least(Town("a"), "a" * exponent, "", 7)
            self.look_for_least(Town("ab"), "abAB" * exponent, "", 5)
        self.look_for_least(Town("ab", ("aa", "")), "abAB", "", 6)
        self.look_for_least(Town("ab", ("aa", ""), ("bb", "")), "abAB", "", 6)

    def test_by_hand(self):
        town = Town("a")
        for exponent in range(1, 200):
            # If the word comes back, it goes along each street as often as the index divides the exponent.
            sums = [(index + modulus, index, modulus) for index in range(1, 12) for modulus in range(1, 12)
                    if exponent % index != 0 or exponent // index % modulus != 0]
            barrier = decide(town, "a" * exponent, "").toll_town
            self.assertEqual((barrier.size, barrier.modulus), min(sums)[1:], exponent)
        # The index comes first among equal sums, and then the rows of the table.
        self.assertEqual(decide(Town("ab"), "abAB", "").toll_town.table.rows(), [(1, 0), (0, 2)])
        self.assertEqual(decide(Town("ab"), "aabAAB", "").toll_town.table.rows(), [(1, 0), (0, 2)])

    def test_greater_towns(self):
        town = Town("ta", ("taT", "aa"))
        # The modulus divides one less than the power of 2 with the index as its exponent, and not the exponent of a.
        for exponent, least in [(1, (2, 3)), (3, (4, 5)), (15, (3, 7)), (45, (3, 7)), (105, (6, 9))]:
            barrier = decide(town, "a" * exponent, "").toll_town
            self.assertEqual((barrier.size, barrier.modulus), least, exponent)
        barrier = decide(town, ("a" * 31 + "t") * 2 + "TT", "").toll_town
        self.assertEqual((31 + 62) % 3, 0)
        self.assertEqual((barrier.size, barrier.modulus), (4, 5))

    def test_great_moduli(self):
        town = Town("a", ("a" * 16, "A" * 15))
        verdict = decide(town, "a", "")
        self.look_at(verdict, town, "a", "")
        self.assertEqual((verdict.toll_town.size, verdict.toll_town.modulus), (1, 31))
        # 17 and 19 are the only primes that 323, the order of the letter, has.
        town = Town("ab", ("a" * 16, "A" * 7 + "B"), ("b" * 14, "a"))
        self.assertEqual(town.table.size, 323)
        verdict = decide(town, "a" * 19, "")
        self.look_at(verdict, town, "a" * 19, "")
        self.assertEqual((verdict.toll_town.size, verdict.toll_town.modulus), (1, 17))

    def test_many_places(self):
        # The square of a by t is the product of a and its image by t, as with the numbers of Fibonacci.
        town = Town("ta", ("ttaTT", "taTa"))
        for exponent, least in [(1, (3, 2)), (2, (4, 5)), (10, (6, 4)), (20, (8, 3))]:
            verdict = decide(town, "a" * exponent, "")
            self.look_at(verdict, town, "a" * exponent, "")
            self.assertEqual((verdict.toll_town.size, verdict.toll_town.modulus), least)


class ClassesTest(VerdictCase):
    def test_classes(self):
        self.assertEqual((Even.__bases__, Parted.__bases__, Verdict.__bases__), ((Verdict,), (Verdict,), (object,)))
        self.assertIs(type(decide(Town("a"), "a", "a")), Even)
        self.assertIs(type(decide(Town("a"), "a", "")), Parted)

    def test_open(self):
        town = Town("ab")
        verdict = Verdict(town, "a", "b")
        self.assertEqual((verdict.town, verdict.one, verdict.other), (town, "a", "b"))
        self.assertEqual((verdict.told(), repr(verdict), bool(verdict)), ("open", "Verdict(open)", False))

    def test_made_by_hand(self):
        rows = [((0,), 0, 1)]
        town, barrier = Town("a", ("a", "")), TollTown(Table(1, [(4,)]), 5, [(0,)] * 4)
        even, parted = Even(town, "a", "", rows), Parted(town, "a", "", barrier)
        self.assertEqual((even.rows(), even.told(), repr(even), bool(even)), (rows, "even", "Even(even)", True))
        told = "parted: 4 places, modulus 5"
        self.assertEqual((parted.toll_town, parted.told(), repr(parted), bool(parted)),
                         (barrier, told, f"Parted({told})", False))
        one_place = Parted(town, "a", "", TollTown(Table(1, [(1,)]), 1, [(0,)]))
        self.assertEqual(one_place.told(), "parted: 1 places, modulus 1")

    def test_made_with_strings_that_are_no_words(self):
        town = Town("a")
        barrier = TollTown(Table(1, [(1,)]), 1, [(0,)])
        for made in [lambda one, other: Verdict(town, one, other), lambda one, other: Even(town, one, other, []),
                     lambda one, other: Parted(town, one, other, barrier)]:
            self.assertEqual(raised(lambda: made("b", "c")), ("InvalidWord", 0))
            self.assertEqual(raised(lambda: made("a", "c")), ("InvalidWord", 1))

    def test_lists_are_copied(self):
        rows = [((0,), 0, 1)]
        verdict = Even(Town("a", ("a", "")), "a", "", rows)
        rows.append("more")
        verdict.rows().clear()
        self.assertEqual(verdict.rows(), [((0,), 0, 1)])
        found = decide(Town("a", ("a", "")), "a", "")
        found.rows().clear()
        self.assertEqual(len(found.rows()), 1)
        self.assertEqual(Even(Town("a", ("a", "")), "a", "", (((0,), 0, 1),)).rows(), [((0,), 0, 1)])

    def test_keywords(self):
        town = Town("a")
        self.assertEqual(Verdict(other="a", one="A", town=town).one, "A")
        self.assertEqual(Even(town=town, one="a", other="a", rows=[]).rows(), [])
        barrier = decide(other="a", one="", town=town).toll_town
        self.assertIs(Parted(toll_town=barrier, town=town, one="a", other="").toll_town, barrier)
        self.assertTrue(is_even(town=town, one="aA", other=""))
        self.assertTrue(commute(town=town, one="a", other="aa"))
        self.assertEqual(least_power(town=Town("a", ("aa", "")), word="a", most=2), 2)
        self.assertIsNone(unlike_rule(one=town, other=town))
        with self.assertRaises(TypeError):
            least_power(town, "a", 2)


class QuestionsTest(VerdictCase):
    def test_commute(self):
        source = random.Random(10)
        found = set()
        for width, many, turn in itertools.product([1, 2, 3], [0, 1, 2], range(5)):
            town = random_town(source, width, many, 5)
            one, other = random_word(source, town.letters, 0, 4), random_word(source, town.letters, 0, 4)
            found.add(commute(town, one, other))
            self.assertEqual(commute(town, one, other), self.decided(town, one + other, other + one))
        self.assertEqual(found, {True, False})
        self.assertTrue(commute(Town("ab"), "abAB", "baBA"))
        self.assertFalse(commute(Town("ab"), "abAB", "a"))
        self.assertFalse(commute(Town("ab"), "a", "b"))
        self.assertTrue(commute(Town("ab", ("aa", "")), "aa", "baaB"))

    def test_least_power(self):
        self.assertEqual([least_power(Town("a", ("a" * power, "")), "a") for power in [1, 2, 7, 11, 12, 13]],
                         [1, 2, 7, 11, 12, None])
        self.assertEqual([least_power(Town("a", ("a" * 12, "")), "a", most=most) for most in [1, 11, 12]], [None, None, 12])
        self.assertEqual([least_power(Town("a", ("aaaaaa", "")), "a" * many) for many in [0, 2, 3, 4, 6]], [1, 3, 2, 3, 1])
        self.assertEqual(least_power(Town("ab"), ""), 1)
        self.assertEqual(least_power(Town("ab"), "aA", most=1), 1)
        self.assertIsNone(least_power(Town("ab"), "abAB"))
        self.assertEqual(least_power(Town("ab", ("abAB" * 3, "")), "abAB"), 3)
        self.assertEqual(least_power(Town("ab", ("aa", ""), ("bb", ""), ("ab" * 3, "")), "ab"), 3)
        self.assertEqual(least_power(Town("ta", ("taT", "A"), ("aaaaa", "")), "at"), None)

    def test_least_power_errors(self):
        for most in [0, 13, -1, 10 ** 29, True, False]:
            found = raised(lambda: least_power(Town("a"), "a", most=most))
            self.assertEqual(found, ("InvalidNumber", most))
            self.assertIs(type(found[1]), type(most))
            self.assertEqual(raised(lambda: least_power(Town("a"), "b", most=most)), ("InvalidWord", 0))

    def test_unlike_rule(self):
        town = Town("ab", ("aa", ""), ("bb", ""), ("abAB", ""))
        same = Town("ab", ("a", "A"), ("ab", "ba"), ("b", "B"), ("", ""))
        self.assertIsNone(unlike_rule(town, same))
        self.assertIsNone(unlike_rule(same, town))
        self.assertIsNone(unlike_rule(Town("ab"), Town("ab", ("abBA", ""))))
        less = Town("ab", ("aaaa", ""), ("bb", ""), ("ab", "ba"))
        self.assertEqual(unlike_rule(town, less), (0, 0))
        self.assertEqual(unlike_rule(less, town), (1, 0))
        self.assertEqual(unlike_rule(Town("ab", ("abAB", ""), ("bb", "")), same), (1, 0))
        self.assertEqual(unlike_rule(Town("ab", ("aa", ""), ("abAB", "")), Town("ab", ("bb", ""), ("aa", ""))), (0, 1))
        self.assertEqual(unlike_rule(Town("ab", ("aa", "")), Town("ab", ("A", "a"), ("", "aaaa"), ("bb", ""))), (1, 2))

    def test_unlike_rule_with_other_letters(self):
        for one, other in [("ab", "ba"), ("a", "ab"), ("ab", "ac")]:
            self.assertEqual(raised(lambda: unlike_rule(Town(one), Town(other))), ("Unlike",))

    def test_invalid_words(self):
        town = Town("ab", ("a", "b"))
        for call in [decide, is_even, commute]:
            self.assertEqual(raised(lambda: call(town, "c", "c")), ("InvalidWord", 0))
            self.assertEqual(raised(lambda: call(town, "a b", "")), ("InvalidWord", 0))
            self.assertEqual(raised(lambda: call(town, "a", "C")), ("InvalidWord", 1))
            self.assertEqual(raised(lambda: call(town, "", "1")), ("InvalidWord", 1))
