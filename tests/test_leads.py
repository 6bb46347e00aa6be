"""Tests of leads: point 14, interface section roundswap/leads.py."""

import itertools
import random
import unittest

from reckoning import mirrored, raised, random_rule, random_word, steps_away
from roundswap.leads import Lead
from roundswap.towns import Town
from roundswap.verdicts import decide, is_even
from roundswap.words import shortened

LETTERS = {1: "t", 2: "ab", 3: "xyz"}
SOURCE = Town("ab", ("aa", ""), ("ab", "ba"))
TARGET = Town("xyz", ("xx", ""), ("yz", "zy"))


def random_town(source, width, many, most):
    return Town(LETTERS[width], *[random_rule(source, LETTERS[width], most) for rule in range(many)])


def random_lead(source, begin, end, most):
    return Lead(begin, end, [random_word(source, end.letters, 0, most) for letter in begin.letters])


class LeadTest(unittest.TestCase):
    def test_invalid_leads(self):
        cases = [
            (["c", "d"], 0),
            (["x", "a"], 1),
            (["x y", "x"], 0),
            (["X", "1"], 1),
            ([], 0),
            (["x"], 1),
            (["c"], 0),
            (["x", "y", "z"], 2),
            (["x", "y", "c"], 2),
            (["x", "c", "z"], 1),
            (["c", "y", "z", "x"], 0),
            (["x", "y", "z", "x"], 2),
        ]
        for words, at in cases:
            self.assertEqual(raised(lambda: Lead(SOURCE, TARGET, words)), ("InvalidLead", at), words)
            self.assertEqual(raised(lambda: Lead(SOURCE, TARGET, tuple(words))), ("InvalidLead", at), words)

    def test_properties(self):
        lead = Lead(SOURCE, TARGET, ["xY", ""])
        self.assertEqual((lead.source, lead.target, lead.words()), (SOURCE, TARGET, ["xY", ""]))
        self.assertEqual(Lead(SOURCE, TARGET, ("xY", "")).words(), ["xY", ""])

    def test_same(self):
        for town in [SOURCE, TARGET, Town("t")]:
            lead = Lead.same(town)
            self.assertEqual((lead.source, lead.target, lead.words()), (town, town, list(town.letters)))
            self.assertIsNone(lead.fault())
            self.assertEqual(lead.image(town.letters), town.letters)

    def test_images(self):
        lead = Lead(SOURCE, TARGET, ["xYz", "ZZ"])
        images = {"": "", "a": "xYz", "A": "ZyX", "b": "ZZ", "B": "zz", "aA": "xYzZyX", "ab": "xYzZZ", "BaB": "zzxYzzz"}
        for word, image in images.items():
            self.assertEqual(lead.image(word), image)
            self.assertEqual(lead(word), image)
        empty = Lead(SOURCE, TARGET, ["", "x"])
        self.assertEqual((empty("aAbBa"), empty("AAA")), ("xX", ""))

    def test_images_of_drawn_words(self):
        source = random.Random(1)
        for one, other in itertools.product([1, 2, 3], repeat=2):
            begin, end = random_town(source, one, 2, 4), random_town(source, other, 2, 4)
            lead = random_lead(source, begin, end, 5)
            word = random_word(source, begin.letters, 0, 20)
            pictures = dict(zip(begin.letters, lead.words()))
            expected = "".join(pictures[sign] if sign.islower() else mirrored(pictures[sign.lower()]) for sign in word)
            self.assertEqual(lead.image(word), expected)
            self.assertEqual(lead(word), expected)

    def test_invalid_words(self):
        lead = Lead(SOURCE, TARGET, ["x", "y"])
        for word in ["x", "a b", "abc", "1"]:
            self.assertEqual(raised(lambda: lead.image(word)), ("InvalidWord", 0))
            self.assertEqual(raised(lambda: lead(word)), ("InvalidWord", 0))

    def test_keeps_and_fault(self):
        cases = [
            (["x", "x"], [True, True]),
            (["x", "y"], [True, False]),
            (["y", "z"], [False, True]),
            (["y", "x"], [False, False]),
            (["", "yx"], [True, True]),
            (["YxyX", "z"], [False, False]),
        ]
        for words, kept in cases:
            lead = Lead(SOURCE, TARGET, words)
            self.assertEqual([lead.keeps(0), lead.keeps(1)], kept, words)
            self.assertEqual(lead.fault(), None if all(kept) else kept.index(False), words)
        self.assertIsNone(Lead(Town("ab"), TARGET, ["x", "y"]).fault())

    def test_keeps_against_decide(self):
        source = random.Random(2)
        found = set()
        for one, other, turn in itertools.product([1, 2, 3], [1, 2, 3], range(4)):
            begin, end = random_town(source, one, 3, 4), random_town(source, other, 2, 4)
            lead = random_lead(source, begin, end, 3)
            kept = [bool(decide(end, lead(first), lead(second))) for first, second in begin.rules()]
            self.assertEqual([lead.keeps(number) for number in range(3)], kept)
            self.assertEqual(lead.fault(), None if all(kept) else kept.index(False))
            found.add(lead.fault())
        self.assertGreater(len(found), 2)

    def test_unknown_rules(self):
        lead = Lead(SOURCE, TARGET, ["x", "y"])
        for number in [-1, -2, 2, 10 ** 29, True, False]:
            found = raised(lambda: lead.keeps(number))
            self.assertEqual(found, ("UnknownRule", number))
            self.assertIs(type(found[1]), type(number))
        self.assertEqual(raised(lambda: Lead.same(Town("a")).keeps(0)), ("UnknownRule", 0))

    def test_leads_that_keep_all_rules_lead_even_words_to_even_words(self):
        source = random.Random(3)
        looked = 0
        for one, other, turn in itertools.product([1, 2, 3], [1, 2, 3], range(6)):
            begin, end = random_town(source, one, 2, 4), random_town(source, other, 3, 3)
            lead = random_lead(source, begin, end, 3)
            if lead.fault() is None:
                word = random_word(source, begin.letters, 0, 10)
                away, taken = steps_away(source, begin, word, 12, 40)
                self.assertTrue(is_even(end, lead(word), lead(away)))
                looked += 1
        self.assertGreater(looked, 10)

    def test_then(self):
        source = random.Random(4)
        for turn in range(20):
            towns = [random_town(source, source.randint(1, 3), 1, 3) for town in range(3)]
            first, second = random_lead(source, towns[0], towns[1], 4), random_lead(source, towns[1], towns[2], 4)
            both = first.then(second)
            self.assertEqual((both.source, both.target), (towns[0], towns[2]))
            self.assertEqual(both.words(), [shortened(second(word)) for word in first.words()])
            word = random_word(source, towns[0].letters, 0, 8)
            self.assertEqual(shortened(both(word)), shortened(second(first(word))))
        lead = Lead(SOURCE, TARGET, ["xX", "yxXz"])
        self.assertEqual(lead.then(Lead.same(TARGET)).words(), ["", "yz"])
        self.assertEqual(Lead.same(SOURCE).then(lead).words(), ["", "yz"])

    def test_then_unlike(self):
        lead = Lead(SOURCE, TARGET, ["x", "y"])
        for town in [SOURCE, Town("xyz"), Town("xyz", *TARGET.rules()[::-1]), Town("xy", ("xx", ""))]:
            self.assertEqual(raised(lambda: lead.then(Lead.same(town))), ("Unlike",))

    def test_alike(self):
        lead = Lead(SOURCE, TARGET, ["x", "yz"])
        self.assertTrue(lead.alike(lead))
        self.assertTrue(lead.alike(Lead(SOURCE, TARGET, ["X", "zy"])))
        self.assertTrue(lead.alike(Lead(SOURCE, TARGET, ["xxx", "yZzz"])))
        self.assertFalse(lead.alike(Lead(SOURCE, TARGET, ["", "zy"])))
        self.assertFalse(lead.alike(Lead(SOURCE, TARGET, ["x", "y"])))
        self.assertFalse(Lead(SOURCE, TARGET, ["xy", "z"]).alike(Lead(SOURCE, TARGET, ["yx", "z"])))

    def test_alike_unlike(self):
        lead = Lead(SOURCE, TARGET, ["x", "y"])
        for other in [Lead(Town("ab"), TARGET, ["x", "y"]), Lead(SOURCE, Town("xyz"), ["x", "y"]),
                      Lead(Town("abc"), TARGET, ["x", "y", "z"]), Lead.same(SOURCE)]:
            self.assertEqual(raised(lambda: lead.alike(other)), ("Unlike",))

    def test_equality(self):
        lead = Lead(SOURCE, TARGET, ["x", "y"])
        self.assertTrue(lead == Lead(Town("ab", ("aa", ""), ("ab", "ba")), TARGET, ("x", "y")))
        self.assertFalse(lead != Lead(SOURCE, TARGET, ["x", "y"]))
        for other in [Lead(SOURCE, TARGET, ["x", "Y"]), Lead(Town("ab"), TARGET, ["x", "y"]), ["x", "y"], None, SOURCE,
                      Lead(SOURCE, Town("xyz"), ["x", "y"]), Lead(SOURCE, TARGET, ["xxx", "y"]), "Lead"]:
            self.assertFalse(lead == other)
            self.assertTrue(lead != other)

    def test_repr(self):
        self.assertEqual(repr(Lead(SOURCE, TARGET, ["x", "y"])), "Lead(2 letters, 3 letters)")
        self.assertEqual(repr(Lead(Town("t"), SOURCE, [""])), "Lead(1 letters, 2 letters)")

    def test_lists_are_copied(self):
        words = ["x", "y"]
        lead = Lead(SOURCE, TARGET, words)
        words[0] = "z"
        lead.words().clear()
        self.assertEqual(lead.words(), ["x", "y"])
        self.assertEqual(lead("a"), "x")

    def test_keywords(self):
        lead = Lead(words=["x", "y"], target=TARGET, source=SOURCE)
        self.assertEqual((lead.image(word="a"), lead(word="a"), lead.keeps(number=0)), ("x", "x", True))
        self.assertEqual(lead.then(other=Lead.same(town=TARGET)), lead)
        self.assertTrue(lead.alike(other=lead))
