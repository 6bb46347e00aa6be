"""Tests of phrases and of texts of words: point 5, interface section roundswap/phrases.py."""

import itertools
import re
import unittest

from roundswap.errors import ParseError, TooLong
from roundswap.phrases import format_word, read_word

ATOM_MODES = ("need", "atom", "one", "digit", "full", "free")
END_MODES = ATOM_MODES[1:]
PHRASES = [
    "[a, b]^2 (a b)^-1",
    " ( a ^ 2 b ^ -3 ) ^ 0 [ 1 , A ^ 10 ] 1 1 ^ 2 ",
    "((((((a))))))b",
    "[[[[[[a,b],b],b],b],b],b]",
    "a1B(1)1^-1 1",
    "[(a b)^-2 1, [A, b^0]]^-2",
]


def fault_of(text, letters):
    """Return the index of the first character that cannot stand there, or None.

    It reads the grammar of point 5 character by character, as an automaton.
    """
    mode, stack = "need", []
    for at, mark in enumerate(text):
        mode = mode_behind(mode, mark, letters, stack)
        if mode is None:
            return at
    return None if mode in END_MODES and not stack else len(text)


def mode_behind(mode, mark, letters, stack):
    """Return the mode of the automaton behind a character, or None."""
    if mark == " ":
        spaced = {"need": "need", "hat": "hat", "minus": None, "atom": "atom", "one": "atom"}
        return spaced.get(mode, "free")
    if mode in ("hat", "minus"):
        if mark == "-":
            return "minus" if mode == "hat" else None
        if mark == "0":
            return "full" if mode == "hat" else None
        return "digit" if mark in "123456789" else None
    if mark in "0123456789" and mode in ("one", "full", "digit"):
        return "full" if mode == "digit" else None
    if mark == "^":
        return "hat" if mode in ("atom", "one") else None
    if mark == "1" or mark.lower() in letters:
        return "one" if mark == "1" else "atom"
    if mark in "([":
        stack.append(mark)
        return "need" if len(stack) <= 6 else None
    return mode_behind_part(mode, mark, stack)


def mode_behind_part(mode, mark, stack):
    """Return the mode behind a comma or a closing mark, or None."""
    openers = {")": "(", ",": "[", "]": ","}
    if mode == "need" or not stack or stack[-1] != openers.get(mark):
        return None
    stack.pop()
    if mark == ",":
        stack.append(",")
        return "need"
    return "atom"


def value_of(text):
    """Return the word with a valid phrase, by rewriting its innermost parts.

    A part that is worked out already is written as its word in braces.
    """
    text = re.sub(r"\^ *(-?[0-9]+)", r"<\1>", text)
    text = re.sub(r"(?<![<\-0-9])1(?![0-9]*>)", "{}", text)
    text = re.sub(r"([a-zA-Z])", r"{\1}", text).replace(" ", "")
    before = None
    while text != before:
        before = text
        text = re.sub(r"\{(\w*)\}<(-?[0-9]+)>", lambda m: braced(power_of(m[1], int(m[2]))), text)
        text = re.sub(r"\{(\w*)\}\{(\w*)\}(?!<)", r"{\1\2}", text)
        text = re.sub(r"\(\{(\w*)\}\)", r"{\1}", text)
        text = re.sub(r"\[\{(\w*)\},\{(\w*)\}\]", lambda m: braced(bracket_of(m[1], m[2])), text)
    return text[1:-1]


def braced(word):
    return "{" + word + "}"


def power_of(word, exponent):
    return word * exponent if exponent >= 0 else word[::-1].swapcase() * -exponent


def bracket_of(one, other):
    return one + other + one[::-1].swapcase() + other[::-1].swapcase()


class PhraseCase(unittest.TestCase):
    def assert_reads(self, text, word, letters="ab"):
        self.assertEqual(read_word(text, letters), word, text)

    def assert_fault(self, text, at, letters="ab"):
        with self.assertRaises(ParseError, msg=text) as caught:
            read_word(text, letters)
        self.assertEqual(caught.exception.at, at, text)

    def assert_too_long(self, text):
        with self.assertRaises(TooLong, msg=text) as caught:
            read_word(text, "ab")
        self.assertEqual(caught.exception.limit, 400)


class ReadTest(PhraseCase):
    def test_letters_and_one(self):
        for text, word in [("a", "a"), ("A", "A"), ("abAB", "abAB"), ("1", ""), ("1 1", ""), ("a1b", "ab"), ("1a", "a")]:
            self.assert_reads(text, word)
        self.assert_reads("tAz", "tAz", letters="zta")

    def test_the_word_is_not_shortened(self):
        self.assert_reads("a A", "aA")
        self.assert_reads("(a b)^-1 a b", "BAab")

    def test_powers(self):
        for text, word in [
            ("a^2", "aa"), ("a^0", ""), ("A^0", ""), ("a^1", "a"), ("a^10", "a" * 10), ("b^99", "b" * 99),
            ("a^-1", "A"), ("A^-1", "a"), ("A^-2", "aa"), ("a^-99", "A" * 99), ("(a b)^2", "abab"),
            ("(a b)^-2", "BABA"), ("(a B)^-1", "bA"), ("(a b)^0", ""), ("1^0", ""), ("1^-7", ""), ("a^2b^3", "aabbb"),
            ("a b^2", "abb"), ("((a^2)^-2)^2", "A" * 8),
        ]:
            self.assert_reads(text, word)

    def test_brackets(self):
        for text, word in [
            ("[a, b]", "abAB"), ("[a,b]", "abAB"), ("[b, a]", "baBA"), ("[a b, A]", "abABAa"), ("[1, a]", "aA"),
            ("[a, b]^-1", "baBA"), ("[[a, b], a]", "abABabaBAA"), ("[1,1]", ""), ("[a^2, b]^0", ""),
        ]:
            self.assert_reads(text, word)

    def test_spaces_between_symbols_and_at_both_ends(self):
        self.assert_reads("  [ a , ( b ) ^ 2 ] ^  -1  1  ^ 2   ", "bbaBBA")
        self.assert_reads("a^1 1", "a")
        self.assert_reads("a^-1 1^5 b", "Ab")
        self.assert_reads(" a", "a")
        self.assert_reads("a ", "a")

    def test_six_deep(self):
        self.assert_reads("((((((a))))))", "a")
        self.assert_reads("((((((a)))))) ((((((b))))))", "ab")
        self.assert_reads("[([([(a)^2,1]),1]),1]", "aaAA" * 4)

    def test_arguments_by_keyword(self):
        self.assertEqual(read_word(letters="ab", text="a^2"), "aa")
        self.assertEqual(format_word(word="aa"), "a^2")

    def test_values_against_rewriting(self):
        for text in PHRASES:
            self.assert_reads(text, value_of(text))


class FaultTest(PhraseCase):
    def test_the_text_ends_too_early(self):
        for text in ["", " ", "   ", "(", "[", "( ", "(a", "[a", "[a ", "[a,", "[a, ", "[a,b", "a^", "a ^ ", "a^-", "1^",
                     "b (a^2", "a [b^-", "((((((a)))))"]:
            self.assert_fault(text, len(text))

    def test_a_character_that_cannot_stand_at_the_beginning(self):
        for text in ["^2", ")", "]", ",", "-1", "0", "2", "c", "C", "=a", ";", "\na", "01", ".", "_a"]:
            self.assert_fault(text, 0)

    def test_a_character_that_cannot_stand_in_the_middle(self):
        for text, at in [
            ("a c b", 2), ("a)b", 1), ("a,b", 1), ("a]b", 1), ("()a", 1), ("( )", 2), ("[a]b", 2), ("[,b]", 1),
            ("[a,]b", 3), ("[a,b,a]", 4), ("[a,b)a", 4), ("(a,b)", 2), ("(a]", 2), ("a^2^3", 3), ("a^b", 2), ("a^(2)", 2),
            ("a^--1", 3), ("a^+1", 2), ("a0b", 1), ("a 2 b", 2), ("a^1 2 b", 4), ("a^1 0", 4), ("a-1", 1), ("a^-b", 3),
            ("a\nb", 1), ("a = b", 2), ("a^2 ^3", 4),
        ]:
            self.assert_fault(text, at)

    def test_a_character_that_cannot_stand_at_the_end(self):
        for text in ["a^-0", "a^00", "a ^ 01", "11", "a^100", "a^-100", "a^-99 1^123", "a)", "a]", "a,", "ab c", "a^-1^",
                     "b a^-0", "(a) )", "a^-12 10", "[a, b],"]:
            self.assert_fault(text, len(text) - 1)

    def test_digits_behind_exponents_and_ones(self):
        for text, at in [("a^-0", 3), ("a^00", 3), ("a ^ 01", 5), ("11", 1), ("a^-01", 3), ("a^100", 4), ("a^-100", 5),
                         ("10", 1), ("1 12", 3), ("(12)", 2), ("a^012", 3), ("1^23 45", 5)]:
            self.assert_fault(text, at)

    def test_no_space_inside_of_an_exponent(self):
        self.assert_fault("a^- 1", 3)
        self.assert_fault("a^1 2", 4)
        self.assert_fault("a ^ - 1", 5)

    def test_the_seventh_opening_one(self):
        for text, at in [("(((((((a)))))))", 6), ("[[[[[[[a", 6), ("((((((a (b", 8), ("a([([([a,(", 9), ("((((((", 6),
                         ("[a,[a,[a,[a,[a,[a,[a", 18), ("((((((a)))))[((((((", 17)]:
            self.assert_fault(text, at)

    def test_letters_of_another_town(self):
        self.assert_fault("ab", 1, letters="a")
        self.assert_fault("t a B", 4, letters="ta")

    def test_all_short_texts_against_an_automaton(self):
        for length in range(6):
            for marks in itertools.product("aBc102^-()[,] ", repeat=length):
                self.compare("".join(marks))

    def test_changed_phrases_against_an_automaton(self):
        for text in PHRASES:
            for at in range(len(text) + 1):
                self.compare(text[:at])
                for mark in "ac012^-()[,] ":
                    self.compare(text[:at] + mark + text[at:])
                    self.compare(text[:at] + mark + text[at + 1:])

    def compare(self, text):
        """Compare the word or the fault of a text with the plain ways above."""
        expected = fault_of(text, "ab")
        try:
            found = read_word(text, "ab")
        except ParseError as error:
            self.assertEqual(error.at, expected, text)
        except TooLong:
            self.assertIsNone(expected, text)
            self.assertGreater(len(value_of(text)), 400, text)
        else:
            self.assertIsNone(expected, text)
            self.assertEqual(found, value_of(text), text)


class LengthTest(PhraseCase):
    def test_exactly_the_limit_and_one_more(self):
        self.assert_reads("a^99 a^99 a^99 a^99 b^4", "a" * 396 + "bbbb")
        self.assert_too_long("a^99 a^99 a^99 a^99 b^5")
        self.assert_reads("(a^80)^5", "a" * 400)
        self.assert_reads("(a^80)^-5", "A" * 400)
        self.assert_too_long("(a^80)^5 b")
        self.assert_too_long("b (a^80)^-5")
        self.assert_reads("ab" * 200, "ab" * 200)
        self.assert_too_long("ab" * 200 + "a")
        self.assert_reads("[a^99 a, b^99 b]", "a" * 100 + "b" * 100 + "A" * 100 + "B" * 100)
        self.assert_too_long("[a^99 a, b^99 b] a")
        self.assert_too_long("[a^99 a, b^99 b a]")

    def test_only_the_whole_word_counts(self):
        self.assert_reads("(a^99 a^99 a^99 a^99 a^99)^0", "")
        self.assert_reads("b (((a^99)^99)^-99)^0 b", "bb")
        self.assert_reads("b [(a^99)^99, (b^99)^-99]^0 b", "bb")
        self.assert_reads("[((a^99)^9)^0, b]", "bB")

    def test_shortening_does_not_help(self):
        self.assert_too_long("(a A)^99 (a A)^99 (a A)^5")

    def test_far_more_characters(self):
        self.assert_too_long("((((((a^99)^99)^99)^99)^99)^99)")
        self.assert_too_long("((((((a^-99)^-99)^-99)^-99)^-99)^-99)^-99")
        self.assert_too_long("[[[[[[a^99,b]^99,b]^99,b]^99,b]^99,b]^99,b]^99")
        self.assert_reads("((((((a^99)^99)^99)^99)^99)^99)^0", "")
        self.assert_reads("((((((1^99)^99)^99)^99)^99)^99)^99", "")
        self.assert_too_long("a" * 4000)

    def test_parse_error_ahead(self):
        self.assert_fault("(a^99)^99 )", 10)
        self.assert_fault("((((((a^99)^99)^99)^99)^99)^99", 30)
        self.assert_fault("a" * 500 + "c", 500)


class FormatTest(PhraseCase):
    def test_runs(self):
        for word, text in [
            ("", "1"), ("a", "a"), ("A", "a^-1"), ("aa", "a^2"), ("AA", "a^-2"), ("aaBBBa", "a^2 b^-3 a"), ("ab", "a b"),
            ("aA", "a a^-1"), ("taTAA", "t a t^-1 a^-2"), ("a" * 10, "a^10"), ("b" + "A" * 99, "b a^-99"), ("a" * 150, "a^150"),
        ]:
            self.assertEqual(format_word(word), text)

    def test_reading_it_again(self):
        for length in range(7):
            for signs in itertools.product("aAbB", repeat=length):
                word = "".join(signs)
                self.assert_reads(format_word(word), word)
        for word in ["a" * 99, "B" * 99 + "a" * 99, ("a" * 50 + "B" * 50) * 4]:
            self.assert_reads(format_word(word), word)

    def test_a_run_of_more_than_99_characters_cannot_be_read(self):
        self.assert_fault(format_word("a" * 100), 4)
        self.assert_fault(format_word("A" * 100), 5)
