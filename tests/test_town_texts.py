"""Tests of the texts of towns: point 20, Town.text and Town.read."""

import random
import unittest

from reckoning import raised, random_word
from roundswap.towns import Town

# Parts behind the letters "ab" that are not two phrases with one = between.
NO_PARTS = ["", " ", "a", "a b", "=", "= a", "a =", "a = = b", "a = b = a", "a == b", "a = c", "c = a", "a = b^", "a = b^01",
            "(a = b", "a) = b", "a = [a, b", "a = [a]", "a = 2", "a : b", "a = b,", "a^100 = b", "a = -b", "=="]
TOO_LONG = "(a^99)^5"


class TextTest(unittest.TestCase):
    def test_texts(self):
        for town, text in [
            (Town("ta", ("taT", "aa")), "ta; t a t^-1 = a^2"),
            (Town("ab"), "ab"), (Town("z"), "z"),
            (Town("ab", ("", "")), "ab; 1 = 1"),
            (Town("ab", ("aaBBBa", ""), ("", "A")), "ab; a^2 b^-3 a = 1; 1 = a^-1"),
            (Town("xyz", ("xXzZ", "y" * 16)), "xyz; x x^-1 z z^-1 = y^16"),
            (Town("ab", ("a", "b"), ("a", "b")), "ab; a = b; a = b"),
        ]:
            self.assertEqual(town.text(), text)
            self.assertEqual(Town.read(text), town)

    def test_reading_texts_again(self):
        source = random.Random(1)
        for letters in ["t", "ba", "xay"]:
            for many in range(7):
                rules = [(random_word(source, letters, 0, 16), random_word(source, letters, 0, 16)) for at in range(many)]
                town = Town(letters, *rules)
                self.assertEqual(Town.read(town.text()), town)
                self.assertEqual(Town.read(town.text()).text(), town.text())

    def test_looser_texts(self):
        for text, town in [
            ("  ab  ", Town("ab")), ("ab;a=b", Town("ab", ("a", "b"))), (" ab ;  a=b  ;ab = 1 ", Town("ab", ("a", "b"), ("ab", ""))),
            ("ab; [a, b]^2 = (a b)^-1", Town("ab", ("abABabAB", "BA"))),
            ("ta; ((t)) a T = a a 1", Town("ta", ("taT", "aa"))),
            ("ab; aA = [1, b^0]^9", Town("ab", ("aA", ""))),
            ("ab ; ( a ^ 2 ) ^ -2=A A", Town("ab", ("AAAA", "AA"))),
            ("a;(a^99)^0=1", Town("a", ("", ""))),
            ("a; ((((a^99)^99)^99)^99)^0 a = a^16", Town("a", ("a", "a" * 16))),
        ]:
            self.assertEqual(Town.read(text), town)


class InvalidTextTest(unittest.TestCase):
    def test_letters(self):
        for text, at in [("", 0), ("   ", 0), (";", 0), ("; a = b", 0), ("A", 0), ("a b", 1), ("  a b ", 1), ("  aba", 2),
                         (" abcd ; a = b", 3), ("ab, a = b", 2), ("ab = a; a = b", 2), ("  aB", 1), ("aa;", 1), ("\nab", 0),
                         (" ab\n", 2), ("1", 0), ("a=b", 1), ("!ab", 0), (" ab! ", 2)]:
            self.assertEqual(raised(lambda: Town.read(text)), ("InvalidLetters", at), text)

    def test_parts(self):
        for part in NO_PARTS:
            for at in range(1, 9):
                text = "; ".join(["ab"] + ["a = b"] * (at - 1) + [part])
                self.assertEqual(raised(lambda: Town.read(text)), ("ParseError", at), text)
                self.assertEqual(raised(lambda: Town.read(text + "; b = ; ?")), ("ParseError", at), text)

    def test_a_semicolon_at_the_end(self):
        self.assertEqual(raised(lambda: Town.read("ab;")), ("ParseError", 1))
        self.assertEqual(raised(lambda: Town.read("ab; a = b;")), ("ParseError", 2))
        self.assertEqual(raised(lambda: Town.read("ab; a = b; ")), ("ParseError", 2))
        self.assertEqual(raised(lambda: Town.read("ab;; a = b")), ("ParseError", 1))

    def test_words_that_are_too_long(self):
        for text in [f"ab; {TOO_LONG} = b", f"ab; b = {TOO_LONG}", f"ab; a = b; {TOO_LONG} = {TOO_LONG}; 1 = 1"]:
            self.assertEqual(raised(lambda: Town.read(text)), ("TooLong", 400))
        self.assertEqual(raised(lambda: Town.read("a; (a^50)^8 a = a")), ("TooLong", 400))
        self.assertEqual(raised(lambda: Town.read("a; (a^50)^8 = a")), ("InvalidRule", 0))

    def test_rules(self):
        self.assertEqual(raised(lambda: Town.read("ab; a = b; a^17 = b")), ("InvalidRule", 1))
        self.assertEqual(raised(lambda: Town.read("ab; a = b; b = [a^4, b^5]")), ("InvalidRule", 1))
        self.assertEqual(raised(lambda: Town.read("ab" + "; a = b" * 7)), ("InvalidRule", 6))
        self.assertEqual(raised(lambda: Town.read("ab" + "; a = b" * 400)), ("InvalidRule", 6))
        self.assertEqual(raised(lambda: Town.read("ab" + "; a = b" * 6 + "; a^17 = b")), ("InvalidRule", 6))
        self.assertEqual(len(Town.read("ab" + "; a = b" * 6)), 6)

    def test_order(self):
        bad, long, invalid = "a = ?", f"{TOO_LONG} = a", "a^17 = b"
        self.assertEqual(raised(lambda: Town.read(f"abA; {bad}; {long}; {invalid}")), ("InvalidLetters", 2))
        self.assertEqual(raised(lambda: Town.read(f"ab; {invalid}; {long}; {bad}")), ("ParseError", 3))
        self.assertEqual(raised(lambda: Town.read(f"ab; {long}; {invalid}; a = b; {bad}; {bad}")), ("ParseError", 4))
        self.assertEqual(raised(lambda: Town.read(f"ab; {TOO_LONG} = ?")), ("ParseError", 1))
        self.assertEqual(raised(lambda: Town.read(f"ab; ? = {TOO_LONG}")), ("ParseError", 1))
        self.assertEqual(raised(lambda: Town.read(f"ab; {invalid}; a = b; {long}")), ("TooLong", 400))
        self.assertEqual(raised(lambda: Town.read("ab" + "; a = b" * 7 + f"; {long}")), ("TooLong", 400))
        self.assertEqual(raised(lambda: Town.read("ab" + "; a = b" * 7 + f"; {long}; {bad}")), ("ParseError", 9))
