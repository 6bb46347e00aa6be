"""Tests of steps and chains: point 8, interface section roundswap/chains.py."""

import itertools
import random
import unittest

from reckoning import (mirrored, path_to, raised, random_level_rule, random_rule, random_step, random_word, steps_away,
                       walk_by_steps)
from roundswap.chains import applied, chain_of, is_chain, walked
from roundswap.sums import is_sum, size_of_sum
from roundswap.towns import Town
from roundswap.verdicts import decide

LETTERS = {1: "t", 2: "ta", 3: "xay"}
TOWN = Town("ab", ("aa", ""), ("abA", "b"))


def random_town(source, width, many, most):
    draw = source.choice([random_rule, random_level_rule])
    return Town(LETTERS[width], *[draw(source, LETTERS[width], most) for rule in range(many)])


class AppliedTest(unittest.TestCase):
    def check(self, word, step, behind):
        self.assertEqual(applied(TOWN, word, step), behind, (word, step))

    def check_none(self, word, step):
        self.assertEqual(raised(lambda: applied(TOWN, word, step)), ("InvalidStep", 0), (word, step))

    def test_put(self):
        for sign, pair in [("a", "aA"), ("A", "Aa"), ("b", "bB"), ("B", "Bb")]:
            self.check("", ("put", 0, sign), pair)
            self.check("ab", ("put", 0, sign), pair + "ab")
            self.check("ab", ("put", 1, sign), "a" + pair + "b")
            self.check("ab", ("put", 2, sign), "ab" + pair)

    def test_put_that_is_not_possible(self):
        for at in [-1, 3, 10 ** 29, True, False, "0", "", "1"]:
            self.check_none("ab", ("put", at, "a"))
        for sign in ["c", "C", "", "aA", "ab", " ", "1", 0, 1, True, False]:
            self.check_none("ab", ("put", 0, sign))
        for step in [("put",), ("put", 0), ("put", 0, "a", 0), ("put", 0, "a", "a"), ("put", "a", 0)]:
            self.check_none("ab", step)

    def test_drop(self):
        self.check("aA", ("drop", 0), "")
        self.check("baAb", ("drop", 1), "bb")
        self.check("bBbA", ("drop", 0), "bA")
        self.check("bBbA", ("drop", 1), "bA")
        self.check("abaA", ("drop", 2), "ab")

    def test_drop_that_is_not_possible(self):
        for at in [-1, -2, -4, 1, 2, 3, 4, 10 ** 29, True, False, "0", ""]:
            self.check_none("aAba", ("drop", at))
        for word, at in itertools.product(["", "a", "ab", "aa", "aB"], [-1, 0, 1, 2]):
            self.check_none(word, ("drop", at))
        for step in [("drop",), ("drop", 0, 0), ("drop", 0, "a"), ("drop", 0, True)]:
            self.check_none("aA", step)

    def test_rule(self):
        self.check("baab", ("rule", 0, True, 1), "bb")
        self.check("aa", ("rule", 0, True, 0), "")
        self.check("", ("rule", 0, False, 0), "aa")
        for at in range(3):
            self.check("bb", ("rule", 0, False, at), "bb"[:at] + "aa" + "bb"[at:])
        self.check("aabA", ("rule", 1, True, 1), "ab")
        self.check("ab", ("rule", 1, False, 1), "aabA")

    def test_rules_with_empty_sides(self):
        town = Town("a", ("", ""), ("", "aa"))
        for at, forward in itertools.product(range(2), [True, False]):
            self.assertEqual(applied(town, "a", ("rule", 0, forward, at)), "a")
        self.assertEqual(applied(town, "a", ("rule", 1, True, 1)), "aaa")
        self.assertEqual(raised(lambda: applied(town, "a", ("rule", 0, True, 2))), ("InvalidStep", 0))
        self.assertEqual(raised(lambda: applied(town, "a", ("rule", 1, True, -1))), ("InvalidStep", 0))
        self.assertEqual(raised(lambda: applied(Town("a"), "a", ("rule", 0, True, 0))), ("InvalidStep", 0))

    def test_rule_that_is_not_possible(self):
        for number in [-1, -2, 2, 10 ** 29, True, False, "0"]:
            self.check_none("aab", ("rule", number, True, 0))
        for forward in [0, 1, 2, -1, "", "True", "a"]:
            self.check_none("aab", ("rule", 0, forward, 0))
            self.check_none("aab", ("rule", 0, forward, 1))
        for at in [-1, -3, 1, 2, 3, 4, 10 ** 29, True, False, "0"]:
            self.check_none("aab", ("rule", 0, True, at))
        for at in [-1, -3, 4, 10 ** 29, True, False, "0"]:
            self.check_none("aab", ("rule", 0, False, at))
        self.check_none("a", ("rule", 0, True, 0))
        self.check_none("aAb", ("rule", 1, True, 0))
        self.check_none("ab", ("rule", 1, True, 0))
        for step in [("rule",), ("rule", 0), ("rule", 0, True), ("rule", 0, True, 0, 0), ("rule", True, 0, 0)]:
            self.check_none("aab", step)

    def test_swap(self):
        self.check("aabaaB", ("swap", 0, 2, 4), "baaBaa")
        self.check("baaBaa", ("swap", 0, 4, 2), "aabaaB")
        self.check("bbBaA", ("swap", 1, 2, 2), "baAbB")
        self.check("abaaBAAb", ("swap", 1, 4, 2), "aAAbaaBb")

    def test_swap_with_empty_stretches(self):
        for at in range(3):
            self.check("ab", ("swap", at, 0, 0), "ab")
        self.check("aab", ("swap", 0, 2, 0), "aab")
        self.check("aab", ("swap", 0, 0, 2), "aab")
        self.check("", ("swap", 0, 0, 0), "")

    def test_swap_that_is_not_possible(self):
        for at in [-1, 1, 2, 5, 10 ** 29, True, False, "0"]:
            self.check_none("aaaa", ("swap", at, 2, 2))
        for first in [-1, -2, 1, 3, 4, 10 ** 29, True, False, "2"]:
            self.check_none("aaaa", ("swap", 0, first, 2))
            self.check_none("aaaa", ("swap", 0, 2, first))
        for at in [-1, 3, True, "1"]:
            self.check_none("aa", ("swap", at, 0, 0))
        self.check_none("baab", ("swap", 0, 1, 2))
        self.check_none("aabb", ("swap", 0, 2, 2))
        self.check_none("aabb", ("swap", 2, 2, 0))
        self.check_none("aaaa", ("swap", 2, 2, 2))
        for step in [("swap",), ("swap", 0), ("swap", 0, 2), ("swap", 0, 2, 2, 0), ("swap", 0, 2, "2")]:
            self.check_none("aaaa", step)

    def test_stretches_come_round_by_all_rules_together(self):
        town = Town("ab", ("aab", ""), ("abb", ""))
        self.assertEqual(applied(town, "aBab", ("swap", 0, 2, 0)), "aBab")
        self.assertEqual(applied(town, "aBbbbaaa", ("swap", 0, 2, 3)), "bbbaBaaa")
        self.assertEqual(raised(lambda: applied(town, "aBbbbaaa", ("swap", 0, 2, 4))), ("InvalidStep", 0))

    def test_other_tuples(self):
        for step in [(), ("",), ("puts", 0, "a"), ("Put", 0, "a"), (0,), (True, 0, "a"), (0, "put", "a"), ("drops", 0),
                     ("drop ", 0), ("swaps", 0, 0, 0), ("a", "b", "c")]:
            self.check_none("aA", step)

    def test_words_come_ahead_of_steps(self):
        for word, step in itertools.product(["c", "a c", "aaC"], [(), ("put", 0, "a"), ("drop", 99)]):
            self.assertEqual(raised(lambda: applied(TOWN, word, step)), ("InvalidWord", 0))

    def test_drawn_steps(self):
        source = random.Random(1)
        kinds = set()
        for width, many, turn in itertools.product([1, 2, 3], [0, 1, 3, 6], range(25)):
            town = random_town(source, width, many, 6)
            word = random_word(source, town.letters, 0, 12)
            found = random_step(source, town, word)
            if found is not None:
                self.assertEqual(applied(town, word, found[0]), found[1])
                kinds.add(found[0][0])
        self.assertEqual(kinds, {"put", "drop", "rule", "swap"})


class WalkedTest(unittest.TestCase):
    def test_each_word(self):
        source = random.Random(2)
        for width, many in itertools.product([1, 2, 3], [0, 1, 3]):
            town = random_town(source, width, many, 5)
            word = random_word(source, town.letters, 0, 10)
            end, taken = steps_away(source, town, word, 20, 50)
            expected = [word]
            for step in taken:
                expected.append(applied(town, expected[-1], step))
            self.assertEqual(list(walked(town, word, taken)), expected)
            self.assertEqual(expected[-1], end)
            self.assertTrue(is_chain(town, word, end, taken))
            self.assertTrue(is_chain(town, word, end, tuple(taken)))
            self.assertFalse(is_chain(town, word, end + town.letters[0], taken))

    def test_without_steps(self):
        self.assertEqual(list(walked(TOWN, "ab", [])), ["ab"])
        self.assertTrue(is_chain(TOWN, "ab", "ab", []))
        self.assertFalse(is_chain(TOWN, "ab", "ba", []))
        self.assertFalse(is_chain(TOWN, "abB", "a", []))

    def test_error_at_its_step(self):
        steps = [("put", 0, "a"), ("drop", 0), ("drop", 0), ("put", 9, "a")]
        found = walked(TOWN, "b", steps)
        self.assertEqual([next(found), next(found), next(found)], ["b", "aAb", "b"])
        self.assertEqual(raised(lambda: next(found)), ("InvalidStep", 2))
        self.assertEqual(raised(lambda: list(walked(TOWN, "b", [()]))), ("InvalidStep", 0))
        self.assertFalse(is_chain(TOWN, "b", "b", steps))
        self.assertFalse(is_chain(TOWN, "b", "b", [()]))

    def test_invalid_words(self):
        found = walked(TOWN, "c", [()])
        self.assertEqual(raised(lambda: next(found)), ("InvalidWord", 0))
        self.assertEqual(raised(lambda: is_chain(TOWN, "c", "d", [()])), ("InvalidWord", 0))
        self.assertEqual(raised(lambda: is_chain(TOWN, "a", "d", [()])), ("InvalidWord", 1))

    def test_keywords(self):
        self.assertEqual(applied(step=("drop", 0), word="aA", town=TOWN), "")
        self.assertEqual(list(walked(steps=[("drop", 0)], word="aA", town=TOWN)), ["aA", ""])
        self.assertTrue(is_chain(steps=[("drop", 0)], one="aA", other="", town=TOWN))
        self.assertEqual(chain_of(rows=[], one="a", other="a", town=TOWN), [])

    def test_lists_are_not_modified(self):
        steps = [("put", 0, "a"), ("drop", 0)]
        list(walked(TOWN, "b", steps))
        is_chain(TOWN, "b", "b", steps)
        self.assertEqual(steps, [("put", 0, "a"), ("drop", 0)])


class ChainOfTest(unittest.TestCase):
    def check(self, town, one, other, rows):
        """Check that a chain leads from one word to the other one, by the test's own look at each step."""
        chain = chain_of(town, one, other, rows)
        self.assertIsInstance(chain, list)
        words = list(walked(town, one, chain))
        self.assertEqual((words[0], words[-1]), (one, other), (town.text(), one, other, rows))
        self.assertTrue(is_chain(town, one, other, chain))
        for step in chain:
            self.assertIsInstance(step, tuple)
        return chain

    def word_with(self, source, town, rows, other):
        """Return a word that lies, by the rows, beside another one, with its rules at drawn indexes."""
        parts = [""]
        for place, number, count in rows:
            one, second = town.rules()[number]
            loop = one + mirrored(second) if count > 0 else second + mirrored(one)
            path = path_to(place, town.letters)
            parts += [path + loop + mirrored(path)] * abs(count)
        source.shuffle(parts)
        return "".join(parts) + other

    def test_drawn_sums(self):
        source = random.Random(3)
        for width, many, turn in itertools.product([1, 2, 3], [1, 2, 6], range(8)):
            town = random_town(source, width, many, 5)
            rows = [(tuple(source.randint(-2, 2) for at in range(width)), source.randrange(many),
                     source.choice([-3, -2, -1, 1, 2, 3])) for row in range(source.randint(0, 3))]
            other = random_word(source, town.letters, 0, 8)
            one = self.word_with(source, town, rows, other)
            self.assertTrue(is_sum(town, one, other, rows))
            if size_of_sum(rows) <= 40:
                self.check(town, one, other, rows)
                negative = [(place, number, -count) for place, number, count in rows]
                self.check(town, other, one, negative)
            else:
                self.assertEqual(raised(lambda: chain_of(town, one, other, rows)), ("TooLong", 40))

    def test_sums_that_decide_finds(self):
        source = random.Random(4)
        kinds = set()
        for width, many, turn in itertools.product([1, 2, 3], [0, 1, 2, 6], range(6)):
            town = random_town(source, width, many, 6)
            one = random_word(source, town.letters, 0, 14)
            other, taken = steps_away(source, town, one, 12, 50)
            rows = decide(town, one, other).rows()
            if size_of_sum(rows) <= 40:
                kinds |= {step[0] for step in self.check(town, one, other, rows)}
            else:
                self.assertEqual(raised(lambda: chain_of(town, one, other, rows)), ("TooLong", 40))
        self.assertEqual(kinds, {"put", "drop", "rule", "swap"})

    def test_words_that_are_not_shortened(self):
        self.check(TOWN, "aAbBaA", "", [])
        self.check(TOWN, "", "bBbBaA", [])
        self.check(TOWN, "aaAaAbB", "Aaa", [])
        self.check(TOWN, "aaaA", "bB", [((0, 0), 0, 1)])

    def test_words_with_the_same_walk(self):
        source = random.Random(5)
        for width, turn in itertools.product([1, 2, 3], range(10)):
            town = Town(LETTERS[width])
            one = random_word(source, town.letters, 0, 30)
            other, taken = steps_away(source, town, one, 20, 60)
            start = (0,) * width
            self.assertEqual(walk_by_steps([], one, town.letters, start), walk_by_steps([], other, town.letters, start))
            self.check(town, one, other, [])
        self.assertEqual(chain_of(Town("ab"), "abAB", "abAB", []), [])

    def test_both_sides_of_a_rule(self):
        for one, other in [("ab", "ba"), ("", "aba"), ("aaa", ""), ("abA", "bb"), ("", "")]:
            town = Town("ab", (one, other))
            if one != other:
                self.check(town, one, other, [((0, 0), 0, 1)])
                self.check(town, other, one, [((0, 0), 0, -1)])
                self.check(town, "b" + one + "a", "b" + other + "a", [((0, 1), 0, 1)])
                self.check(town, "B" * 9 + one, "B" * 9 + other, [((0, -9), 0, 1)])

    def test_rules_that_change_nothing(self):
        town = Town("ab", ("ab", "ab"), ("aB", "bBaB"))
        self.check(town, "a", "a", [((1, 0), 0, 5), ((0, 0), 1, -2)])

    def test_rows_that_stand_twice_or_cancel(self):
        town = Town("ab", ("aa", ""))
        self.check(town, "aaaa", "", [((0, 0), 0, 1), ((0, 0), 0, 1)])
        self.check(town, "aa", "", [((0, 0), 0, 3), ((2, 0), 0, -2)])
        self.check(town, "b", "b", [((0, 1), 0, 3), ((4, 1), 0, -3)])

    def test_the_greatest_size(self):
        town = Town("a", ("a", ""))
        for rows in [[((0,), 0, 40)], [((19,), 0, 1), ((0,), 0, 20)], [((39,), 0, 1)], [((-39,), 0, -1)]]:
            counts = sum(row[2] for row in rows)
            word = "a" * counts if counts > 0 else "A" * -counts
            self.assertEqual(size_of_sum(rows), 40)
            self.check(town, word, "", rows)
        for rows in [[((0,), 0, 41)], [((40,), 0, 1)], [((19,), 0, 1), ((0,), 0, 21)]]:
            word = "a" * sum(row[2] for row in rows)
            self.assertEqual(raised(lambda: chain_of(town, word, "", rows)), ("TooLong", 40))

    def test_errors_in_order(self):
        town = Town("a", ("a", ""))
        too_long, no_sum = [((0,), 0, 41)], [((0,), 0, 42)]
        for rows in [[], too_long, no_sum]:
            self.assertEqual(raised(lambda: chain_of(town, "b", "c", rows)), ("InvalidWord", 0))
            self.assertEqual(raised(lambda: chain_of(town, "a", "c", rows)), ("InvalidWord", 1))
        self.assertEqual(raised(lambda: chain_of(town, "a" * 41, "", no_sum)), ("NotASum",))
        self.assertEqual(raised(lambda: chain_of(town, "a" * 41, "", too_long)), ("TooLong", 40))
        for rows in [[], [((0,), 1, 1)], [((0,), -1, 1)], [((0, 0), 0, 1)], [((), 0, 1)], [((0,), 0, -1)],
                     [((0,), 0, 1), ((0,), 0, 0)]]:
            self.assertEqual(raised(lambda: chain_of(town, "a", "", rows)), ("NotASum",), rows)
        self.assertEqual(raised(lambda: chain_of(Town("ab"), "ab", "ba", [])), ("NotASum",))

    def test_lists_are_new_and_not_modified(self):
        rows = [((0, 0), 0, 1)]
        chain = chain_of(TOWN, "aa", "", rows)
        chain_of(TOWN, "aa", "", rows).clear()
        self.assertEqual(rows, [((0, 0), 0, 1)])
        self.assertEqual(chain_of(TOWN, "aa", "", tuple(rows)), chain)
