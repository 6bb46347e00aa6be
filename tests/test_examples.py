"""The examples of the document."""

import unittest

from roundswap.atlas import Atlas
from roundswap.chains import applied
from roundswap.errors import ParseError
from roundswap.phrases import format_word, read_word
from roundswap.sums import is_sum
from roundswap.tables import Table
from roundswap.tolls import TollTown
from roundswap.towns import Town
from roundswap.verdicts import decide, is_even


class ExamplesTest(unittest.TestCase):
    def test_verdicts(self):
        town = Town("ta", ("taT", "aa"))
        found = [decide(town, "a", "").told(), decide(town, "aaa", "").told(), decide(town, "ttaTT", "aaaa").told()]
        self.assertEqual(found, ["parted: 2 places, modulus 3", "parted: 4 places, modulus 5", "even"])

    def test_verdicts_without_rules(self):
        town = Town("ab")
        found = [decide(town, "abAB", "").told(), is_even(town, "abABbaBA", "baBAabAB"), is_even(town, "abAB", "babABB")]
        self.assertEqual(found, ["parted: 2 places, modulus 2", True, False])

    def test_steps(self):
        town = Town("ab", ("aa", ""))
        found = [applied(town, "aabaaB", ("swap", 0, 2, 4)), applied(town, "ab", ("put", 1, "B")),
                 applied(town, "b", ("rule", 0, False, 1))]
        self.assertEqual(found, ["baaBaa", "aBbb", "baa"])

    def test_phrases(self):
        found = [read_word("[a, b]^2 (a b)^-1", "ab"), format_word("aaBBBa"), format_word("")]
        self.assertEqual(found, ["abABabABBA", "a^2 b^-3 a", "1"])

    def test_fault_of_a_phrase(self):
        with self.assertRaises(ParseError) as caught:
            read_word("a ^ 01", "ab")
        self.assertEqual(caught.exception.at, 5)

    def test_table(self):
        table = Table(2, [(4, 2), (2, -2)])
        found = [table.rows(), table.size, table.place((5, 5)), (6, 0) in table]
        self.assertEqual(found, [[(2, 4), (0, 6)], 12, (1, 3), True])

    def test_sum(self):
        town = Town("ta", ("taT", "aa"))
        found = [is_sum(town, "ttaTT", "aaaa", [((1, 0), 0, 1), ((0, 0), 0, 2)]), town.table.rows()]
        self.assertEqual(found, [True, [(0, 1)]])

    def test_toll_town(self):
        tolls = TollTown(Table(2, [(2, 0), (0, 1)]), 3, [(0, 1), (0, 2)])
        found = [tolls.keeps(Town("ta", ("taT", "aa"))), tolls.end("at", "ta"), tolls.end("ta", "ta")]
        self.assertEqual(found, [True, ((1, 0), 1), ((1, 0), 2)])

    def test_atlas(self):
        atlas = Atlas()
        atlas.apply(("town", "m", Town("ab", ("aa", ""))), ("claim", "swap", "even", "m", "aabaaB", "baaBaa"))
        found = [atlas.holds("swap"), atlas.kept(), atlas.decided]
        self.assertEqual(found, [True, [("m", "aabaaB", "baaBaa")], 1])

    def test_text_of_a_town(self):
        self.assertEqual(Town("ta", ("taT", "aa")).text(), "ta; t a t^-1 = a^2")
        self.assertEqual(Town.read("ta; t a t^-1 = a^2"), Town("ta", ("taT", "aa")))

    def test_what_repr_returns(self):
        town = Town("ta", ("taT", "aa"), ("", ""), ("a", "a"))
        tolls = TollTown(Table(2, [(2, 1), (0, 3)]), 7, [(0, 0)] * 6)
        self.assertEqual([repr(town), repr(tolls), repr(town.walk_of("tta"))],
                         ["Town(2 letters, 3 rules)", "TollTown(6 places, modulus 7)", "Walk(3 streets)"])
