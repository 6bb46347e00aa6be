"""Tests of turning: points 7 and 13, interface section roundswap/turning.py."""

import itertools
import random
import unittest

from reckoning import mirrored, raised, random_word, steps_away, streets_by_steps
from roundswap.errors import NoWord
from roundswap.tables import Table
from roundswap.towns import Town
from roundswap.turning import rolled, turner, word_of
from roundswap.verdicts import decide, is_even
from roundswap.walks import Walk

LETTERS = {1: "t", 2: "ta", 3: "xay"}


def level_word(source, letters, most):
    """Return a word whose counts are all 0."""
    word = random_word(source, letters, 0, most)
    return word + "".join(source.sample(mirrored(word), len(word)))


class TurnerTest(unittest.TestCase):
    def check(self, letters, one, other):
        """Check the answer for words of which one can be turned into the other one."""
        for begin, end in [(one, other), (other, one)]:
            found = turner(letters, begin, end)
            self.assertIsInstance(found, str, (begin, end))
            self.assertTrue(decide(Town(letters), found + begin + mirrored(found), end), (begin, end, found))

    def check_none(self, letters, one, other):
        self.assertIsNone(turner(letters, one, other), (one, other))
        self.assertIsNone(turner(letters, other, one), (one, other))

    def test_words_that_were_turned(self):
        source = random.Random(1)
        for width, level, turn in itertools.product([1, 2, 3], [True, False], range(25)):
            letters = LETTERS[width]
            one = level_word(source, letters, 6) if level else random_word(source, letters, 0, 12)
            if turn % 3 == 0:
                one = one * source.randint(2, 3)
            turning = random_word(source, letters, 0, 8)
            other, taken = steps_away(source, Town(letters), turning + one + mirrored(turning), 8, 60)
            self.check(letters, one, other)

    def test_against_a_search_for_short_words(self):
        source = random.Random(2)
        found = []
        for width, turn in itertools.product([1, 2, 3], range(25)):
            letters = LETTERS[width]
            signs = letters + letters.upper()
            shorts = ["".join(word) for length in range(4) for word in itertools.product(signs, repeat=length)]
            one = level_word(source, letters, 4) if turn % 2 else random_word(source, letters, 0, 8)
            other = "".join(source.sample(one, len(one)))
            town = Town(letters)
            found.append(turner(letters, one, other) is not None)
            if found[-1]:
                self.check(letters, one, other)
            else:
                self.check_none(letters, one, other)
                self.assertFalse(any(is_even(town, word + one + mirrored(word), other) for word in shorts[:80]))
        self.assertGreater(found.count(True), 15)
        self.assertGreater(found.count(False), 10)

    def test_words_with_other_counts(self):
        source = random.Random(3)
        for turn in range(20):
            one = random_word(source, "ab", 0, 8)
            self.check_none("ab", one, one + "a")
            self.check_none("ab", one, one + "bb")
        self.check_none("ab", "", "a")
        self.check_none("ab", "a", "A")

    def test_none(self):
        self.check_none("ab", "abAB", "")
        self.check_none("ab", "abAB", "baBA")
        self.check_none("ab", "abAB", "abABabAB")
        self.check_none("ab", "a", "abABa" + "abAB")
        self.check_none("ab", "aabAB", "abABaabAB" + "baBA" + "abAB")
        self.check_none("abc", "abABacAC", "abABcaCA")

    def test_by_hand(self):
        self.check("ab", "abAB", "babABB")
        self.check("ab", "abAB", "aaabABAA")
        self.check("ab", "ab", "ba")
        self.check("ab", "aab", "aba")
        self.check("ab", "a", "abABabaBA")
        self.check("ab", "aa" + "abAB", "aa" + "aabABA")
        self.check("abc", "abc", "cab")

    def test_the_empty_word(self):
        self.check("ab", "", "")
        self.check("ab", "", "aA")
        self.check("ab", "abABbaBA", "")

    def test_invalid_words(self):
        self.assertEqual(raised(lambda: turner("ab", "c", "c")), ("InvalidWord", 0))
        self.assertEqual(raised(lambda: turner("ab", "", "c")), ("InvalidWord", 1))
        self.assertEqual(raised(lambda: turner("ab", "aaa", "b a")), ("InvalidWord", 1))

    def test_keywords(self):
        self.assertEqual(turner(other="", one="", letters="a"), turner("a", "", ""))
        self.assertEqual(rolled(word="", letters="a"), rolled("a", ""))
        self.assertEqual(word_of(walk=Walk(Table(1)), letters="a"), "")


class RolledTest(unittest.TestCase):
    def test_against_steps(self):
        source = random.Random(4)
        for width, level, turn in itertools.product([1, 2, 3], [True, False], range(15)):
            letters = LETTERS[width]
            word = level_word(source, letters, 6) if level else random_word(source, letters, 0, 14)
            counts = tuple(word.count(letter) - word.count(letter.upper()) for letter in letters)
            table = Table(width, [counts] if any(counts) else [])
            found = rolled(letters, word)
            self.assertIsInstance(found, Walk)
            self.assertEqual(found.table, table)
            self.assertEqual(found.streets(), streets_by_steps(table.rows(), word, letters, (0,) * width))

    def test_by_hand(self):
        self.assertEqual(rolled("a", "aaa").streets(), [((0,), 0, 1), ((1,), 0, 1), ((2,), 0, 1)])
        # The table has the row (1, 1), so the place (1, 0) is named (0, -1).
        self.assertEqual(rolled("ab", "ab").streets(), [((0, -1), 1, 1), ((0, 0), 0, 1)])
        self.assertEqual(rolled("ab", "aA"), Walk(Table(2)))
        self.assertEqual(rolled("ab", ""), Walk(Table(2)))

    def test_invalid_word(self):
        self.assertEqual(raised(lambda: rolled("ab", "abc")), ("InvalidWord", 0))


class WordOfTest(unittest.TestCase):
    def check(self, letters, walk):
        word = word_of(letters, walk)
        table = Table(len(letters))
        self.assertEqual(streets_by_steps([], word, letters, (0,) * len(letters)), walk.streets())
        self.assertEqual(Walk.of(table, word, letters), walk)

    def test_walks_of_words(self):
        source = random.Random(5)
        for width, turn in itertools.product([1, 2, 3], range(25)):
            letters = LETTERS[width]
            self.check(letters, Walk.of(Table(width), random_word(source, letters, 0, 60), letters))

    def test_walks_of_several_pieces(self):
        source = random.Random(6)
        for width, turn in itertools.product([1, 2, 3], range(25)):
            letters, table = LETTERS[width], Table(width)
            walk = Walk.of(table, random_word(source, letters, 0, 8), letters)
            for piece in range(source.randint(1, 4)):
                start = tuple(source.randint(-9, 9) for at in range(width))
                loop = Walk.of(table, level_word(source, letters, 5), letters, start=start)
                walk = walk.plus(loop.times(source.choice([-3, -1, 1, 2])))
            self.check(letters, walk)

    def test_pieces_far_from_the_place_of_zeros(self):
        table = Table(2)
        square = [((0, 0), 0, 1), ((1, 0), 1, 1), ((0, 1), 0, -1), ((0, 0), 1, -1)]
        far = [((place[0] + 7, place[1] - 5), letter, number) for place, letter, number in square]
        self.check("ab", Walk(table, far))
        self.check("ab", Walk(table, square + far))
        self.check("ab", Walk(table, far + [((0, 0), 0, 1)]))
        self.check("ab", Walk(table, far * 30 + [((-1, 0), 0, -1), ((-2, 0), 0, -1)]))

    def test_great_numbers(self):
        table = Table(2)
        square = Walk.of(table, "abAB", "ab")
        for count in [100, -100]:
            self.check("ab", square.times(count))

    def test_the_empty_walk(self):
        for width in [1, 2, 3]:
            self.assertEqual(word_of(LETTERS[width], Walk(Table(width))), "")
            self.assertEqual(word_of(LETTERS[width], Walk(Table(width), [((5,) * width, 0, 0)])), "")

    def test_no_word(self):
        table = Table(2)
        cases = [
            [((1, 0), 0, 1)],
            [((0, 0), 0, -1)],
            [((0, 0), 0, 2)],
            [((0, 0), 0, 1), ((0, 0), 1, 1)],
            [((0, 0), 0, 1), ((5, 5), 0, 1)],
            [((-1, 0), 0, 1), ((0, 0), 0, 2)],
            [((1, 0), 1, 1), ((1, 1), 1, 1)],
            [((10 ** 29, 0), 0, 1)],
            [((0, 0), 0, 1), ((10 ** 29, 0), 0, 10 ** 29)],
            [((-1, 0), 0, 1)],
        ]
        for streets in cases:
            with self.assertRaises(NoWord):
                word_of("ab", Walk(table, streets))

    def test_errors_in_order(self):
        no_word = [((1, 0), 0, 1)]
        for letters in ["a", "abc"]:
            for table in [Table(2), Table(2, [(3, 0)])]:
                self.assertEqual(raised(lambda: word_of(letters, Walk(table, no_word))), ("Unlike",))
        for rows in [[(3, 0)], [(0, 10 ** 29)], [(1, 0), (0, 1)]]:
            walk = Walk(Table(2, rows), no_word)
            self.assertEqual(raised(lambda: word_of("ab", walk)), ("InvalidTable", 0))
            self.assertEqual(raised(lambda: word_of("ab", Walk(Table(2, rows)))), ("InvalidTable", 0))
        self.assertEqual(raised(lambda: word_of("ab", Walk(Table(2, [(0, 0)]), no_word))), ("NoWord",))
