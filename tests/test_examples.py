"""The examples of the document that concern the modules that exist."""

import unittest

from roundswap.errors import ParseError
from roundswap.phrases import format_word, read_word
from roundswap.tables import Table


class ExamplesTest(unittest.TestCase):
    def test_phrases(self):
        found = [read_word("[a, b]^2 (a b)^-1", "ab"), format_word("aaBBBa"), format_word("")]
        self.assertEqual(found, ["abABabABBA", "a^2 b^-3 a", "1"])

    def test_fault_of_a_phrase(self):
        with self.assertRaises(ParseError) as caught:
            read_word("a ^ 01", "ab")
        self.assertEqual(caught.exception.at, 5)

    def test_table(self):
        table = Table(2, [(4, 2), (2, -2)])
        found = [table.rows(), table.size, table.place((5, 5)), (6, 0) in table]
        self.assertEqual(found, [[(2, 4), (0, 6)], 12, (1, 3), True])
