"""Tests of first words: point 15, interface section roundswap/firsts.py."""

import itertools
import random
import unittest

from reckoning import raised, random_level_rule, random_rule, random_word, steps_away
from roundswap.firsts import first_word, first_words
from roundswap.towns import Town
from roundswap.verdicts import decide, is_even
from roundswap.words import shortened

LETTERS = {1: "t", 2: "ta", 3: "xay"}


def all_words(letters, most):
    """Return all words up to a length in their order, by the test's own reckoning."""
    signs = [sign for letter in letters for sign in (letter, letter.upper())]
    return ["".join(word) for length in range(most + 1) for word in itertools.product(signs, repeat=length)]


def first_by_search(town, word):
    """Return the first word, shortened or not, that decide finds even with a word."""
    return next(other for other in all_words(town.letters, len(word)) if decide(town, other, word))


def random_town(source, width, many, most):
    draw = source.choice([random_rule, random_level_rule])
    return Town(LETTERS[width], *[draw(source, LETTERS[width], most) for rule in range(many)])


class FirstWordTest(unittest.TestCase):
    def test_against_a_search(self):
        source = random.Random(1)
        for width, many, turn in itertools.product([1, 2], [0, 1, 2], range(3)):
            town = random_town(source, width, many, 4)
            words = all_words(town.letters, 3)
            for word in words if width == 1 else source.sample(words, 20):
                self.assertEqual(first_word(town, word), first_by_search(town, word), (town.text(), word))

    def test_the_order_of_letters(self):
        town = Town("ba", ("ba", "ab"))
        self.assertEqual([first_word(town, word) for word in ["ab", "Ab", "AB", "aaab"]], ["ba", "bA", "BA", "baaa"])
        self.assertEqual(first_word(Town("ba", ("a", "b")), "aa"), "bb")
        self.assertEqual(first_word(Town("ab", ("a", "b")), "bb"), "aa")
        self.assertEqual(first_word(Town("ab", ("aa", "")), "A"), "a")
        self.assertEqual(first_word(Town("ab", ("a", "B")), "b"), "A")
        self.assertEqual(first_word(Town("ba", ("a", "B")), "a"), "B")

    def test_one_for_even_words(self):
        source = random.Random(2)
        for width, many, turn in itertools.product([1, 2, 3], [0, 1, 2, 6], range(4)):
            town = random_town(source, width, many, 4)
            word = random_word(source, town.letters, 0, 5 if width < 3 else 4)
            first = first_word(town, word)
            self.assertTrue(is_even(town, word, first))
            self.assertEqual(first_word(town, first), first)
            self.assertLessEqual(len(first), len(shortened(word)))
            away, taken = steps_away(source, town, word, 8, 30)
            if len(shortened(away)) <= 6:
                self.assertEqual(first_word(town, away), first)

    def test_greatest_length(self):
        town = Town("abc", ("aa", ""), ("ab", "ba"))
        self.assertEqual(first_word(town, "cacaca"), "cacaca")
        self.assertEqual(first_word(town, "CACBAC"), "CaCaBC")
        self.assertEqual(first_word(Town("abc"), "cbacba"), "cbacba")
        self.assertEqual(first_word(Town("a"), "a" * 6), "a" * 6)
        self.assertEqual(first_word(Town("a", ("aaaa", "")), "a" * 6), "aa")

    def test_errors(self):
        town = Town("ab", ("a", ""))
        for word in ["c", "aaaaaaac", "a b"]:
            self.assertEqual(raised(lambda: first_word(town, word)), ("InvalidWord", 0))
        for word in ["b" * 7, "ababABA", "aA" + "b" * 7, "b" * 60]:
            self.assertEqual(raised(lambda: first_word(town, word)), ("TooLong", 6))
        # Only the shortened word counts.
        self.assertEqual(first_word(town, "aA" * 20 + "bbbbbb"), "bbbbbb")
        self.assertEqual(first_word(town, "bbbbbbbB"), "bbbbbb")


class FirstWordsTest(unittest.TestCase):
    def test_against_a_search(self):
        source = random.Random(3)
        for width, many, turn in itertools.product([1, 2], [0, 1, 2], range(2)):
            town = random_town(source, width, many, 4)
            for most in range(4 if width == 1 else 3):
                expected = []
                for word in all_words(town.letters, most):
                    if not any(decide(town, earlier, word) for earlier in expected):
                        expected.append(word)
                self.assertEqual(list(first_words(town, most)), expected, town.text())

    def test_greatest_number(self):
        source = random.Random(4)
        for width, many in itertools.product([1, 2, 3], [0, 1, 2, 6]):
            town = random_town(source, width, many, 5)
            found = list(first_words(town, 3))
            self.assertEqual(found[:1], [""])
            self.assertEqual(found, [word for word in all_words(town.letters, 3) if word in found])
            self.assertEqual([word for word in found if len(word) < 3], list(first_words(town, 2)))
            for word in source.sample(found, min(len(found), 8)):
                self.assertEqual(first_word(town, word), word)
            others = [word for word in all_words(town.letters, 3) if word not in found]
            for word in source.sample(others, min(len(others), 8)):
                self.assertIn(first_word(town, word), found)
                self.assertNotEqual(first_word(town, word), word)

    def test_by_hand(self):
        self.assertEqual(list(first_words(Town("a"), 2)), ["", "a", "A", "aa", "AA"])
        self.assertEqual(list(first_words(Town("a", ("aaa", "")), 3)), ["", "a", "A"])
        self.assertEqual(list(first_words(Town("ab", ("a", ""), ("b", "")), 3)), [""])
        self.assertEqual(list(first_words(Town("ab"), 0)), [""])
        self.assertEqual(len(list(first_words(Town("abc"), 3))), 1 + 6 + 30 + 150)

    def test_errors_come_with_the_first_value(self):
        for most in [-1, 4, 10 ** 29, True, False]:
            found = first_words(Town("a"), most)
            error = raised(lambda: next(found))
            self.assertEqual(error, ("InvalidNumber", most))
            self.assertIs(type(error[1]), type(most))

    def test_keywords(self):
        self.assertEqual(first_word(word="aA", town=Town("a")), "")
        self.assertEqual(list(first_words(most=1, town=Town("a"))), ["", "a", "A"])
