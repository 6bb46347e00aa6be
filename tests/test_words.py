"""Tests of words: points 3 and 4, interface section roundswap/words.py."""

import itertools
import types
import unittest

from roundswap.errors import InvalidWord
from roundswap.words import counts, is_word, opposite, precedes, shortened, words_of

# Strings that are no words for the letters "ab", each for another reason.
NO_WORDS = ["c", "abc", "C", "a b", " ", "1", "ab1", "a^2", "aB_", "a\n", "(", "t", "ab-"]


def signs_of(letters):
    """Return the characters of words in the order of point 4."""
    return "".join(letter + letter.upper() for letter in letters)


def all_words(letters, length):
    """Return all words with this length, shortened or not, in no useful order."""
    return ["".join(word) for word in itertools.product(sorted(signs_of(letters)), repeat=length)]


def has_pair(word):
    """Return whether a character stands beside its opposite."""
    return any(one == other.swapcase() for one, other in zip(word, word[1:]))


def place_in_order(word, letters):
    """Return the key of a word in the order of point 4."""
    return len(word), tuple(signs_of(letters).index(sign) for sign in word)


class WordTest(unittest.TestCase):
    def test_words(self):
        for word in ["", "a", "A", "b", "B", "aAbB", "BBBB", "ab" * 30]:
            self.assertIs(is_word(word, "ab"), True, word)
        self.assertIs(is_word("tATA", "ta"), True)
        self.assertIs(is_word("zyxZYX", "zxy"), True)

    def test_strings_that_are_no_words(self):
        for word in NO_WORDS:
            self.assertIs(is_word(word, "ab"), False, word)
        self.assertIs(is_word("b", "a"), False)
        self.assertIs(is_word("B", "a"), False)

    def test_a_string_of_several_letters_is_judged_by_characters(self):
        self.assertIs(is_word("ac", "abc"), True)
        self.assertIs(is_word("ba", "ab"), True)


class OppositeTest(unittest.TestCase):
    def test_opposites(self):
        for word, expected in [("", ""), ("a", "A"), ("A", "a"), ("abC", "cBA"), ("aabB", "bBAA"), ("zQ", "qZ")]:
            self.assertEqual(opposite(word), expected)

    def test_twice_is_the_word_itself(self):
        for word in all_words("ta", 4):
            self.assertEqual(opposite(opposite(word)), word)
            self.assertEqual(shortened(word + opposite(word)), "")


class ShortenedTest(unittest.TestCase):
    def test_words_that_stay(self):
        for word in ["", "a", "aa", "abAB", "aBaB", "AAbb"]:
            self.assertEqual(shortened(word), word)

    def test_pairs_are_removed(self):
        for word, expected in [("aA", ""), ("Aa", ""), ("aAa", "a"), ("baAb", "bb"), ("aabB", "aa"), ("zQqx", "zx")]:
            self.assertEqual(shortened(word), expected)

    def test_removing_a_pair_makes_a_new_pair(self):
        for word, expected in [("abBA", ""), ("cabBAb", "cb"), ("abcCBAa", "a"), ("baABAbB", "A")]:
            self.assertEqual(shortened(word), expected)

    def test_against_removing_single_pairs(self):
        for length in range(7):
            for word in all_words("ab", length):
                expected = word
                while has_pair(expected):
                    for pair in ["aA", "Aa", "bB", "Bb"]:
                        expected = expected.replace(pair, "", 1)
                self.assertEqual(shortened(word), expected)


class CountsTest(unittest.TestCase):
    def test_counts(self):
        self.assertEqual(counts("", "a"), (0,))
        self.assertEqual(counts("aaA", "a"), (1,))
        self.assertEqual(counts("AAA", "a"), (-3,))
        self.assertEqual(counts("abAAB", "ab"), (-1, 0))
        self.assertEqual(counts("taTaa", "ta"), (0, 3))
        self.assertEqual(counts("taTaa", "at"), (3, 0))
        self.assertEqual(counts("cBcab", "abc"), (1, 0, 2))
        self.assertEqual(counts("", "abc"), (0, 0, 0))

    def test_a_tuple_of_numbers_for_each_letter(self):
        found = counts("aB", "abc")
        self.assertIs(type(found), tuple)
        self.assertEqual(found, (1, -1, 0))

    def test_no_word(self):
        for word in NO_WORDS:
            with self.assertRaises(InvalidWord) as caught:
                counts(word, "ab")
            self.assertEqual(caught.exception.at, 0)


class PrecedesTest(unittest.TestCase):
    def test_length_first(self):
        self.assertIs(precedes("", "a", "ab"), True)
        self.assertIs(precedes("B", "aa", "ab"), True)
        self.assertIs(precedes("aaa", "BB", "ab"), False)

    def test_each_letter_before_its_capital_in_the_order_of_the_town(self):
        for letters in ["a", "ta", "at", "zxy"]:
            signs = signs_of(letters)
            for one, other in itertools.product(range(len(signs)), repeat=2):
                self.assertIs(precedes(signs[one], signs[other], letters), one < other)

    def test_the_first_character_that_differs_decides(self):
        self.assertIs(precedes("tTA", "tat", "ta"), True)
        self.assertIs(precedes("atA", "aTt", "ta"), True)
        self.assertIs(precedes("aTt", "atA", "ta"), False)

    def test_equal_words(self):
        for word in ["", "a", "tA", "TTT"]:
            self.assertIs(precedes(word, word, "ta"), False)

    def test_all_pairs_of_short_words(self):
        words = [word for length in range(4) for word in all_words("ta", length)]
        keys = {word: place_in_order(word, "ta") for word in words}
        for one, other in itertools.product(words, repeat=2):
            self.assertIs(precedes(one, other, "ta"), keys[one] < keys[other])

    def test_the_first_string_that_is_no_word(self):
        for one, other, at in [("c", "a", 0), ("a", "c", 1), ("c", "d", 0), ("", "a a", 1), ("aaaa", "x", 1)]:
            with self.assertRaises(InvalidWord) as caught:
                precedes(one, other, "ab")
            self.assertEqual(caught.exception.at, at)


class WordsOfTest(unittest.TestCase):
    def test_against_all_words_sorted_and_filtered(self):
        for letters in ["a", "b", "ab", "ta", "zxy"]:
            for length in range(6):
                words = [word for word in all_words(letters, length) if not has_pair(word)]
                expected = sorted(words, key=lambda word: place_in_order(word, letters))
                self.assertEqual(list(words_of(letters, length)), expected)

    def test_small_ones(self):
        self.assertEqual(list(words_of("ab", 0)), [""])
        self.assertEqual(list(words_of("ta", 1)), ["t", "T", "a", "A"])
        self.assertEqual(list(words_of("a", 5)), ["aaaaa", "AAAAA"])

    def test_a_generator_within_the_loop_over_another_one(self):
        found = [(one, other) for one in words_of("ab", 2) for other in words_of("ab", 2)]
        words = list(words_of("ab", 2))
        self.assertEqual(found, list(itertools.product(words, repeat=2)))

    def test_generators_asked_in_turn(self):
        one, other = words_of("ab", 3), words_of("ab", 3)
        self.assertIsInstance(one, types.GeneratorType)
        for word in list(words_of("ab", 3)):
            self.assertEqual((next(one), next(other)), (word, word))

    def test_somewhat_beyond_the_lengths(self):
        self.assertEqual(list(words_of("ab", -1)), [])
        self.assertEqual(len(list(words_of("ab", 6))), 4 * 3 ** 5)


class KeywordTest(unittest.TestCase):
    def test_arguments_by_keyword(self):
        self.assertIs(is_word(letters="a", word="A"), True)
        self.assertEqual(opposite(word="ab"), "BA")
        self.assertEqual(shortened(word="abB"), "a")
        self.assertEqual(counts(letters="ab", word="aB"), (1, -1))
        self.assertIs(precedes(other="b", letters="ab", one="a"), True)
        self.assertEqual(list(words_of(length=1, letters="a")), ["a", "A"])
