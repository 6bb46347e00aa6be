"""Tests of pages: points 20 and 21, interface section roundswap/pages.py."""

import itertools
import random
import unittest

from reckoning import raised, random_rule, random_word
from roundswap.atlas import Atlas, GuardedAtlas
from roundswap.pages import format_atlas, parse_atlas
from roundswap.towns import Town

PAGE = """town k ab
town m ta; t a t^-1 = a^2; 1 = a^3
claim b even m t a t^-1 = a^2
claim c parted k a b^-2 = 1
"""
LINES = PAGE.splitlines()


def text_of(lines):
    return "".join(line + "\n" for line in lines)


def atlas_of_page():
    atlas = Atlas()
    atlas.apply(("town", "m", Town("ta", ("taT", "aa"), ("", "aaa"))), ("town", "k", Town("ab")))
    atlas.apply(("claim", "c", "parted", "k", "aBB", ""), ("claim", "b", "even", "m", "taT", "aa"))
    return atlas


class FormatTest(unittest.TestCase):
    def test_page(self):
        self.assertEqual(format_atlas(atlas_of_page()), PAGE)
        self.assertEqual(format_atlas(atlas=atlas_of_page()), PAGE)
        self.assertEqual(format_atlas(Atlas()), "")

    def test_guarded_atlas(self):
        atlas = GuardedAtlas()
        atlas.apply(("town", "m", Town("a")), ("claim", "m", "even", "m", "", "aA"))
        self.assertEqual(format_atlas(atlas), "town m a\nclaim m even m 1 = a a^-1\n")

    def test_nothing_is_decided(self):
        atlas = atlas_of_page()
        format_atlas(atlas)
        self.assertEqual((atlas.kept(), atlas.decided, atlas.history()), ([], 0, (2, 0)))


class ParseTest(unittest.TestCase):
    def check_error(self, text, at):
        self.assertEqual(raised(lambda: parse_atlas(text)), ("ParseError", at), text)

    def check_line(self, line, at):
        """Check that a line does not fit in the place of another one."""
        self.check_error(text_of(LINES[:at] + [line] + LINES[at + 1:]), at)

    def test_page(self):
        atlas = parse_atlas(PAGE)
        self.assertEqual(atlas, atlas_of_page())
        self.assertIs(type(atlas), Atlas)
        self.assertEqual((atlas.limit, atlas.history(), atlas.kept(), atlas.decided), (12, (0, 0), [], 0))
        self.assertEqual(parse_atlas(text=PAGE), atlas)
        self.assertEqual(raised(atlas.undo), ("NothingLeft",))
        atlas.apply(("unclaim", "b"))
        self.assertEqual(atlas.history(), (1, 0))

    def test_the_empty_text(self):
        atlas = parse_atlas("")
        self.assertEqual((atlas, len(atlas), atlas.limit), (Atlas(), 0, 12))

    def test_drawn_atlases(self):
        source = random.Random(1)
        for turn in range(20):
            atlas = Atlas(limit=12)
            names = source.sample(["a", "b", "ab", "zz", "abc", "m", "town", "claim", "even"], source.randint(0, 5))
            for name in names:
                letters = "".join(source.sample("abxyz", source.randint(1, 3)))
                rules = [random_rule(source, letters, 8) for rule in range(source.randint(0, 6))]
                atlas.apply(("town", name, Town(letters, *rules)))
            for label in source.sample(["a", "x", "even", "claim", "abcdefgh", "z"], source.randint(0, 6)) if names else []:
                name = source.choice(names)
                letters = atlas.town_of(name).letters
                atlas.apply(("claim", label, source.choice(["even", "parted"]), name,
                             random_word(source, letters, 0, 12), random_word(source, letters, 0, 12)))
            page = format_atlas(atlas)
            self.assertEqual(parse_atlas(page), atlas)
            self.assertEqual(format_atlas(parse_atlas(page)), page)

    def test_claims_that_do_not_hold_are_read(self):
        atlas = parse_atlas("town m a\nclaim x even m a = 1\n")
        self.assertEqual(atlas.broken(), ["x"])

    def test_forms(self):
        for line in ["", " ", "town", "town ", "town m", "town m ", "claim", "claim b", "towns m ab", "Town m ab", "m ab",
                     " town m ab", "town  m ab", "town m  ab", "town m ab ", "townm ab", "rule m a = b", "undo", "#",
                     "town m ab;a = b", "town m ab; a = b;", "town m ab; a=b", "town m ab; a", "town m ab; a = b = a",
                     "town\tm ab", "claim c even m 1 = 1"]:
            self.check_line(line, 0)
        for line in ["", "claim c even k a", "claim c even k a=b", "claim c even k a =b", "claim c even k a= b",
                     "claim c even k  a = b", "claim c even  k a = b", "claim  c even k a = b", "claim c even k a = b ",
                     " claim c even k a = b", "claim c even k a  = b", "claim c even k a = b = a", "claim c even k = a",
                     "claim c even k a = ", "claim c even k  = ", "claim c k a = b", "claim c even a = b", "claim even k a = b",
                     "claim c even k", "claim c even k ", "claim c even", "claims c even k a = b"]:
            self.check_line(line, 3)

    def test_names(self):
        for name in ["M", "abcdefghi", "", "a1", "a-b"]:
            self.check_line(f"town {name} ab", 0)
            self.check_line(f"claim {name} even k 1 = 1", 3)
        for kind in ["odd", "Even", "", "parted "]:
            self.check_line(f"claim c {kind} k 1 = 1", 3)

    def test_order_of_names(self):
        for name in ["k", "a", "jz", "ka"[:1]]:
            self.check_line(f"town {name} ab", 1)
        for label in ["b", "a", "az"]:
            self.check_line(f"claim {label} even k 1 = 1", 3)
        self.check_error("town b a\ntown a a\n", 1)
        self.check_error("town a a\ntown a a\n", 1)
        self.assertEqual(parse_atlas("town a a\ntown aa a\ntown b a\n").names(), ["a", "aa", "b"])
        # Towns and claims each for themselves.
        self.assertEqual(parse_atlas("town z a\nclaim a even z 1 = 1\n").labels(), ["a"])

    def test_a_town_behind_a_claim(self):
        self.check_error(text_of(LINES[:3] + ["town z ab"] + LINES[3:]), 3)
        self.check_error(text_of(LINES + ["town z ab"]), 4)

    def test_too_many(self):
        names = ["".join(pair) for pair in itertools.product("abcde", repeat=2)]
        towns = [f"town {name} a" for name in names]
        claims = [f"claim {name} even aa 1 = 1" for name in names]
        self.assertEqual(len(parse_atlas(text_of(towns[:12]))), 12)
        self.check_error(text_of(towns[:13]), 12)
        self.check_error(text_of(towns[:14]), 12)
        self.assertEqual(len(parse_atlas(text_of(towns[:12] + claims[:20])).labels()), 20)
        self.check_error(text_of(towns[:12] + claims[:21]), 32)

    def test_towns_that_are_not_valid(self):
        for text in ["", "abcd", "aa", "aB", "ab; c = a", "ab; " + "a^9 b^8 = 1", "ab; a^17 = 1", "ab; a^0 = 1",
                     "ab" + "; a = b" * 7, "ab; a = b; ; a = b", "ab; a^99 b^99 a^99 b^99 a^99 = 1", "ab; (a = b"]:
            self.check_line(f"town k {text}", 0)

    def test_texts_that_are_readable_but_not_those_of_a_town(self):
        for text in ["ab; a a = b", "ab; A = b", "ab; (a) = b", "ab; a^1 = b", "ab;  a = b", "ab; a =  b", "ab ; a = b",
                     "ab; a = b ", " ab", "ab; 1 a = b", "ab; a^0 = b", "ab; [a, b] = 1", "ab; ab = 1", "ab; a^1 a = 1"]:
            self.assertEqual(Town.read(text).width, 2)
            self.check_line(f"town k {text}", 0)

    def test_texts_that_are_readable_but_not_those_of_a_word(self):
        for one in ["a a", "A", "(a)", "a^1", "1 a", "a^0", "[a, b]", "ab", "a 1", "1 1"]:
            self.check_line(f"claim c even k {one} = b", 3)
            self.check_line(f"claim c even k b = {one}", 3)

    def test_claims_that_are_not_valid(self):
        self.check_line("claim c even n a = b", 3)
        self.check_line("claim c even b a = b", 3)
        self.check_line("claim c even k c = b", 3)
        self.check_line("claim c even k a = c", 3)
        self.check_line("claim c even k t = a", 3)
        self.check_line("claim c even m b = a", 3)
        self.check_line("claim c even k a^100 = b", 3)
        self.check_line("claim c even k a^99 b^99 a^99 b^99 a^99 = b", 3)
        self.check_error("claim c even k a = b\n", 0)

    def test_line_feeds(self):
        self.check_error(PAGE[:-1], 3)
        self.check_error("town m ab", 0)
        self.check_error("town m", 0)
        self.check_error(PAGE + "\n", 4)
        self.check_error(PAGE + " ", 4)
        self.check_error(PAGE + "claim z even k a = b", 4)
        self.check_error("\n" + PAGE, 0)
        self.check_error("\n", 0)
        self.check_error("\n\n", 0)
        self.check_error(" ", 0)
        self.check_error(text_of(LINES[:2] + [""] + LINES[2:]), 2)

    def test_the_first_line_counts(self):
        self.check_error("town m\ntown", 0)
        self.check_error("town m ab\ntown k ab\ntown", 1)
        self.check_error(PAGE + "x\ny\nz", 4)
