"""Tests of atlases: points 16 to 19, interface section roundswap/atlas.py."""

import itertools
import unittest

from reckoning import raised
from roundswap.atlas import Atlas, GuardedAtlas
from roundswap.errors import Broken, NothingLeft, TownError
from roundswap.towns import Town
from roundswap.verdicts import Even, Parted

PLAIN = Town("ab")
TWOS = Town("ab", ("aa", ""))
FULL = Town("ab", *[("a" * many, "b") for many in range(6)])
ABC = "abcdefghijklmnopqrstuvwxyz"


def filled(kind=Atlas):
    """Return an atlas with two towns and three claims."""
    atlas = kind()
    atlas.apply(("town", "m", TWOS), ("town", "k", PLAIN), ("claim", "x", "even", "m", "aa", ""),
                ("claim", "y", "parted", "k", "aa", ""), ("claim", "z", "even", "m", "ab", "AAab"))
    return atlas


def state_of(atlas):
    """Return everything that an atlas tells."""
    towns = [(name, atlas.town_of(name)) for name in atlas.names()]
    claims = [(label, atlas.claim_of(label)) for label in atlas.labels()]
    return towns, claims, atlas.history(), atlas.kept(), atlas.decided, atlas.limit, atlas.busy, len(atlas)


class AtlasCase(unittest.TestCase):
    def check_error(self, atlas, commands, *expected):
        """Check the error of a batch, and that it changes nothing."""
        before = state_of(atlas)
        found = raised(lambda: atlas.apply(*commands))
        self.assertEqual(found, expected, commands)
        if len(found or ()) > 1:
            self.assertIs(type(found[1]), type(expected[1]))
        self.assertEqual(state_of(atlas), before)
        self.assertFalse(atlas.busy)


class MakingTest(AtlasCase):
    def test_new(self):
        for kind in [Atlas, GuardedAtlas]:
            atlas = kind()
            self.assertEqual(state_of(atlas), ([], [], (0, 0), [], 0, 8, False, 0))
            self.assertEqual((kind.MOST, atlas.MOST), (12, 12))
        self.assertTrue(issubclass(GuardedAtlas, Atlas))

    def test_limit_at_the_making(self):
        for kind, limit in itertools.product([Atlas, GuardedAtlas], range(1, 13)):
            self.assertEqual(kind(limit=limit).limit, limit)
        for kind, limit in itertools.product([Atlas, GuardedAtlas], [0, 13, -1, 10 ** 29, True, False]):
            found = raised(lambda: kind(limit=limit))
            self.assertEqual(found, ("InvalidLimit", limit))
            self.assertIs(type(found[1]), type(limit))
        with self.assertRaises(TypeError):
            Atlas(5)

    def test_limit_assigned(self):
        def assign(atlas, limit):
            atlas.limit = limit

        for change in [assign, lambda atlas, limit: atlas.change_limit(limit), lambda atlas, limit:
                       atlas.change_limit(limit=limit)]:
            atlas = filled()
            for limit in [12, 2, 5]:
                self.assertIsNone(change(atlas, limit))
                self.assertEqual(atlas.limit, limit)
            for limit in [1, 0, 13, -5, True, False, 10 ** 29]:
                found = raised(lambda: change(atlas, limit))
                self.assertEqual(found, ("InvalidLimit", limit))
                self.assertIs(type(found[1]), type(limit))
                self.assertEqual(atlas.limit, 5)
            self.assertEqual(atlas.history(), (1, 0))

    def test_limit_is_not_part_of_the_steps(self):
        atlas = filled()
        atlas.limit = 3
        atlas.undo()
        self.assertEqual(atlas.limit, 3)
        atlas.change_limit(1)
        atlas.redo()
        self.assertEqual((atlas.limit, len(atlas)), (1, 2))
        self.check_error(atlas, [("town", "n", PLAIN)], "CapacityExceeded", 1)
        self.assertEqual(raised(lambda: atlas.change_limit(1)), ("InvalidLimit", 1))
        atlas.change_limit(2)
        self.assertEqual(atlas.limit, 2)


class CommandsTest(AtlasCase):
    def test_town(self):
        atlas = Atlas()
        self.assertIsNone(atlas.apply(("town", "m", TWOS)))
        atlas.apply(("town", "abcdefgh", PLAIN))
        self.assertEqual((atlas.names(), atlas.town_of("m"), atlas.town_of("abcdefgh")), (["abcdefgh", "m"], TWOS, PLAIN))

    def test_town_errors(self):
        atlas = filled()
        atlas.change_limit(2)
        for name in ["", "abcdefghi", "M", "m1", "a b", " m", "m\n", "a-b", "aB"]:
            self.check_error(atlas, [("town", name, PLAIN)], "InvalidName", name)
        self.check_error(atlas, [("town", "m", PLAIN)], "DuplicateName", "m")
        self.check_error(atlas, [("town", "n", PLAIN)], "CapacityExceeded", 2)
        atlas.change_limit(3)
        self.check_error(atlas, [("town", "n", PLAIN), ("town", "o", PLAIN)], "CapacityExceeded", 3)
        atlas.apply(("town", "x", PLAIN))
        self.assertEqual(atlas.names(), ["k", "m", "x"])

    def test_greatest_number_of_towns(self):
        atlas = Atlas(limit=12)
        atlas.apply(*[("town", ABC[at], PLAIN) for at in range(12)])
        self.assertEqual(len(atlas), 12)
        self.check_error(atlas, [("town", "z", PLAIN)], "CapacityExceeded", 12)
        atlas.apply(("drop", "a"), ("town", "z", PLAIN))
        self.assertEqual(len(atlas), 12)

    def test_rule(self):
        atlas = filled()
        atlas.apply(("rule", "k", "ab", "ba"))
        atlas.apply(("rule", "k", "", "A" * 16))
        self.assertEqual(atlas.town_of("k").rules(), [("ab", "ba"), ("", "A" * 16)])
        self.assertEqual(atlas.town_of("m"), TWOS)

    def test_rule_errors(self):
        atlas = filled()
        self.check_error(atlas, [("rule", "n", "c", "a" * 17)], "UnknownName", "n")
        for one, other in [("c", ""), ("", "a c"), ("a" * 17, ""), ("", "b" * 17)]:
            self.check_error(atlas, [("rule", "k", one, other)], "InvalidRule", 0)
            self.check_error(atlas, [("rule", "m", one, other)], "InvalidRule", 1)
        atlas.apply(("town", "full", FULL))
        self.check_error(atlas, [("rule", "full", "a", "b")], "InvalidRule", 6)
        self.check_error(atlas, [("rule", "full", "c", "b")], "InvalidRule", 6)

    def test_strike(self):
        atlas = Atlas()
        atlas.apply(("town", "full", FULL), ("strike", "full", 5), ("strike", "full", 0), ("strike", "full", 1))
        self.assertEqual(atlas.town_of("full").rules(), [FULL.rules()[at] for at in (1, 3, 4)])
        atlas.apply(("rule", "full", "a", "b"))
        self.assertEqual(atlas.town_of("full").rules()[-1], ("a", "b"))

    def test_strike_errors(self):
        atlas = filled()
        self.check_error(atlas, [("strike", "n", 9)], "UnknownName", "n")
        for number in [-1, 1, 6, 10 ** 29, True, False]:
            self.check_error(atlas, [("strike", "m", number)], "UnknownRule", number)
        self.check_error(atlas, [("strike", "k", 0)], "UnknownRule", 0)

    def test_rename(self):
        atlas = filled()
        atlas.apply(("rename", "m", "new"))
        self.assertEqual((atlas.names(), atlas.town_of("new")), (["k", "new"], TWOS))
        self.assertEqual([atlas.claim_of(label)[1] for label in "xyz"], ["new", "k", "new"])
        self.assertEqual(atlas.claim_of("x"), ("even", "new", "aa", ""))
        atlas.apply(("rename", "k", "m"), ("rename", "new", "k"))
        self.assertEqual([atlas.claim_of(label)[1] for label in "xyz"], ["k", "m", "k"])
        self.assertEqual((atlas.town_of("k"), atlas.town_of("m")), (TWOS, PLAIN))

    def test_rename_errors(self):
        atlas = filled()
        self.check_error(atlas, [("rename", "n", "M")], "UnknownName", "n")
        self.check_error(atlas, [("rename", "n", "k")], "UnknownName", "n")
        for name in ["", "abcdefghi", "M", "1"]:
            self.check_error(atlas, [("rename", "m", name)], "InvalidName", name)
        self.check_error(atlas, [("rename", "m", "k")], "DuplicateName", "k")
        self.check_error(atlas, [("rename", "m", "m")], "DuplicateName", "m")

    def test_drop(self):
        atlas = filled()
        atlas.apply(("town", "n", PLAIN), ("drop", "n"))
        self.assertEqual(atlas.names(), ["k", "m"])
        atlas.apply(("unclaim", "y"), ("drop", "k"))
        self.assertEqual((atlas.names(), atlas.labels()), (["m"], ["x", "z"]))

    def test_drop_errors(self):
        atlas = filled()
        self.check_error(atlas, [("drop", "x")], "UnknownName", "x")
        self.check_error(atlas, [("drop", "m")], "InUse", "x")
        self.check_error(atlas, [("drop", "k")], "InUse", "y")
        self.check_error(atlas, [("unclaim", "x"), ("drop", "m")], "InUse", "z")
        atlas.apply(("claim", "aa", "even", "m", "", ""), ("claim", "b", "even", "m", "", ""))
        self.check_error(atlas, [("drop", "m")], "InUse", "aa")

    def test_claim(self):
        atlas = filled()
        self.assertEqual(atlas.labels(), ["x", "y", "z"])
        self.assertEqual(atlas.claim_of("y"), ("parted", "k", "aa", ""))
        # A name may also be a label.
        atlas.apply(("claim", "m", "even", "k", "", ""))
        self.assertEqual(atlas.labels(), ["m", "x", "y", "z"])
        # A claim need not hold.
        atlas.apply(("claim", "no", "even", "k", "a", "b"))
        self.assertFalse(atlas.holds("no"))

    def test_claim_errors_in_order(self):
        atlas = filled()
        for label in ["", "abcdefghi", "X", "x1"]:
            self.check_error(atlas, [("claim", label, "odd", "n", "c", "c")], "InvalidName", label)
        self.check_error(atlas, [("claim", "x", "odd", "n", "c", "c")], "DuplicateName", "x")
        for kind in ["odd", "Even", "", "open"]:
            self.check_error(atlas, [("claim", "w", kind, "n", "c", "c")], "InvalidCommand", kind)
        self.check_error(atlas, [("claim", "w", "even", "n", "c", "c")], "UnknownName", "n")
        self.check_error(atlas, [("claim", "w", "even", "m", "c", "c")], "InvalidWord", 0)
        self.check_error(atlas, [("claim", "w", "even", "m", "", "c")], "InvalidWord", 1)
        atlas.apply(*[("claim", ABC[at], "even", "m", "", "") for at in range(17)])
        self.assertEqual(len(atlas.labels()), 20)
        self.check_error(atlas, [("claim", "w", "even", "m", "", "c")], "InvalidWord", 1)
        self.check_error(atlas, [("claim", "w", "even", "m", "", "")], "CapacityExceeded", 20)
        atlas.apply(("unclaim", "a"), ("claim", "w", "even", "m", "", ""))
        self.assertEqual(len(atlas.labels()), 20)

    def test_unclaim(self):
        atlas = filled()
        atlas.apply(("unclaim", "y"))
        self.assertEqual(atlas.labels(), ["x", "z"])
        self.check_error(atlas, [("unclaim", "y")], "UnknownName", "y")
        self.check_error(atlas, [("unclaim", "m")], "UnknownName", "m")

    def test_invalid_commands(self):
        atlas = filled()
        for command in [("towns", "n", PLAIN), ("Town", "n", PLAIN), ("", "m"), ("undo",), ("", ), ("town",),
                        ("town", "n"), ("town", "n", PLAIN, 0), ("rule", "m", "a"), ("rule", "m", "a", "b", "a"),
                        ("strike", "m"), ("strike", "m", 0, 0), ("rename", "m"), ("rename", "m", "n", "o"), ("drop",),
                        ("drop", "m", "k"), ("claim", "w", "even", "m", "a"), ("claim", "w", "even", "m", "a", "a", "a"),
                        ("unclaim",), ("unclaim", "x", "y")]:
            self.check_error(atlas, [command], "InvalidCommand", command[0])
        self.check_error(atlas, [()], "InvalidCommand", None)


class BatchesTest(AtlasCase):
    def test_invalid_commands_come_ahead_of_other_errors(self):
        atlas = filled()
        self.check_error(atlas, [("drop", "n"), ("towns",), ()], "InvalidCommand", "towns")
        self.check_error(atlas, [("drop", "n"), (), ("towns",)], "InvalidCommand", None)
        # The kind of a claim is only looked at when the claim is applied.
        self.check_error(atlas, [("drop", "n"), ("claim", "w", "odd", "m", "a", "a")], "UnknownName", "n")
        self.check_error(atlas, [("claim", "w", "odd", "m", "a", "a"), ("drop", "n")], "InvalidCommand", "odd")

    def test_batches_that_fail_in_the_middle(self):
        atlas = filled()
        atlas.verdict("m", "a", "A")
        self.check_error(atlas, [("town", "n", PLAIN), ("rule", "m", "b", ""), ("unclaim", "x"), ("rename", "m", "o"),
                                 ("drop", "m"), ("town", "k", PLAIN)], "UnknownName", "m")
        self.check_error(atlas, [("strike", "m", 0), ("strike", "m", 0)], "UnknownRule", 0)

    def test_commands_see_those_ahead_of_them(self):
        atlas = Atlas(limit=1)
        atlas.apply(("town", "m", PLAIN), ("rule", "m", "aa", ""), ("claim", "x", "even", "m", "aa", ""),
                    ("rename", "m", "n"), ("unclaim", "x"), ("drop", "n"), ("town", "m", PLAIN))
        self.assertEqual((atlas.names(), atlas.labels(), atlas.history()), (["m"], [], (1, 0)))

    def test_empty_batches_are_steps(self):
        atlas = Atlas()
        atlas.apply()
        atlas.apply()
        self.assertEqual(atlas.history(), (2, 0))
        atlas.undo()
        self.assertEqual(atlas.history(), (1, 1))
        atlas.apply()
        self.assertEqual(atlas.history(), (2, 0))

    def test_undo_and_redo(self):
        atlas = Atlas()
        states = [Atlas()]
        for command in [("town", "m", TWOS), ("claim", "x", "even", "m", "aa", ""), ("rule", "m", "b", ""),
                        ("rename", "m", "k"), ("unclaim", "x"), ("drop", "k")]:
            atlas.apply(command)
            states.append(atlas.twin())
        for at in range(5, -1, -1):
            self.assertIsNone(atlas.undo())
            self.assertEqual((atlas, atlas.history()), (states[at], (at, 6 - at)))
        self.assertEqual(raised(atlas.undo), ("NothingLeft",))
        for at in range(1, 7):
            self.assertIsNone(atlas.redo())
            self.assertEqual((atlas, atlas.history()), (states[at], (at, 6 - at)))
        self.assertEqual(raised(atlas.redo), ("NothingLeft",))
        self.assertEqual((atlas, atlas.history()), (states[6], (6, 0)))

    def test_redo_is_gone_behind_a_step(self):
        atlas = filled()
        atlas.undo()
        self.check_error(atlas, [("drop", "m")], "UnknownName", "m")
        self.assertEqual(atlas.history(), (0, 1))
        atlas.apply(("town", "n", PLAIN))
        self.assertEqual(atlas.history(), (1, 0))
        self.assertEqual(raised(atlas.redo), ("NothingLeft",))
        with self.assertRaises(NothingLeft):
            atlas.redo()

    def test_busy(self):
        atlas = filled()
        seen = []

        class Curious(Town):
            def with_rules(self, *more):
                seen.append(atlas.busy)
                return Town.with_rules(self, *more)

        atlas.apply(("town", "n", Curious("ab")))
        self.assertFalse(atlas.busy)
        atlas.apply(("rule", "n", "a", "b"))
        self.assertEqual((seen, atlas.busy), ([True], False))
        for command in [("rule", "n", "c", ""), ("towns",), (), ("drop", "m"), ("claim", "x", "even", "m", "", "")]:
            with self.assertRaises(TownError):
                atlas.apply(command)
            self.assertFalse(atlas.busy)


class VerdictsTest(AtlasCase):
    def test_verdicts_are_kept(self):
        atlas = filled()
        first = atlas.verdict("m", "a", "A")
        self.assertIsInstance(first, Even)
        self.assertEqual((first.town, first.one, first.other), (TWOS, "a", "A"))
        self.assertEqual((atlas.kept(), atlas.decided), ([("m", "a", "A")], 1))
        self.assertEqual(atlas.verdict("m", "a", "A").rows(), first.rows())
        self.assertEqual((atlas.kept(), atlas.decided), ([("m", "a", "A")], 1))
        self.assertIsInstance(atlas.verdict("m", "A", "b"), Parted)
        atlas.verdict("m", "A", "a")
        atlas.verdict("k", "a", "A")
        self.assertEqual((atlas.kept(), atlas.decided),
                         ([("k", "a", "A"), ("m", "A", "a"), ("m", "A", "b"), ("m", "a", "A")], 4))
        self.assertEqual(atlas.history(), (1, 0))

    def test_verdict_errors(self):
        atlas = filled()
        self.assertEqual(raised(lambda: atlas.verdict("n", "c", "c")), ("UnknownName", "n"))
        self.assertEqual(raised(lambda: atlas.verdict("x", "", "")), ("UnknownName", "x"))
        self.assertEqual(raised(lambda: atlas.verdict("m", "c", "c")), ("InvalidWord", 0))
        self.assertEqual(raised(lambda: atlas.verdict("m", "", "c")), ("InvalidWord", 1))
        self.assertEqual((atlas.kept(), atlas.decided), ([], 0))

    def test_holds_and_broken(self):
        atlas = filled()
        self.assertEqual(atlas.broken(), [])
        self.assertEqual((atlas.kept(), atlas.decided), ([("k", "aa", ""), ("m", "aa", ""), ("m", "ab", "AAab")], 3))
        self.assertEqual([atlas.holds(label) for label in "xyz"], [True, True, True])
        self.assertEqual(atlas.decided, 3)
        atlas.apply(("claim", "w", "parted", "m", "aa", ""), ("claim", "v", "even", "k", "aa", ""),
                    ("claim", "b", "parted", "m", "", "aa"))
        self.assertEqual(atlas.broken(), ["b", "v", "w"])
        self.assertEqual(atlas.decided, 4)
        self.assertEqual([atlas.holds(label) for label in "bvw"], [False, False, False])
        self.assertEqual(raised(lambda: atlas.holds("u")), ("UnknownName", "u"))
        self.assertEqual(raised(lambda: atlas.holds("m")), ("UnknownName", "m"))

    def test_verdicts_are_discarded(self):
        atlas = filled()
        asked = [("m", "a", "A"), ("k", "a", "A")]
        for question in asked:
            atlas.verdict(*question)
        atlas.apply(("rule", "m", "b", ""))
        self.assertEqual((atlas.kept(), atlas.decided), ([("k", "a", "A")], 2))
        self.assertTrue(atlas.verdict("m", "b", ""))
        atlas.undo()
        self.assertEqual(atlas.kept(), [("k", "a", "A")])
        self.assertFalse(atlas.verdict("m", "b", ""))
        atlas.redo()
        self.assertEqual(atlas.kept(), [("k", "a", "A")])
        atlas.apply(("strike", "m", 1), ("town", "n", PLAIN))
        self.assertEqual((atlas.kept(), atlas.decided), ([("k", "a", "A")], 4))

    def test_rules_put_in_and_taken_out_in_one_batch(self):
        atlas = filled()
        atlas.verdict("m", "a", "A")
        atlas.apply(("rule", "m", "b", ""), ("strike", "m", 1))
        self.assertEqual(atlas.kept(), [("m", "a", "A")])
        atlas.apply(("rule", "m", "aa", ""), ("strike", "m", 0))
        self.assertEqual(atlas.kept(), [("m", "a", "A")])
        atlas.apply(("strike", "m", 0), ("rule", "m", "AA", ""))
        self.assertEqual(atlas.kept(), [])

    def test_names_only_are_looked_at(self):
        atlas = filled()
        atlas.verdict("m", "a", "A")
        atlas.apply(("rename", "m", "n"))
        self.assertEqual(atlas.kept(), [])
        atlas.verdict("n", "a", "A")
        atlas.apply(("rename", "n", "m"), ("town", "n", TWOS))
        # There is a town with this name again, and it is equal.
        self.assertEqual(atlas.kept(), [("n", "a", "A")])
        self.assertEqual(atlas.decided, 2)
        atlas.apply(("drop", "n"))
        self.assertEqual(atlas.kept(), [])

    def test_towns_that_are_dropped_and_made_anew(self):
        atlas = Atlas()
        atlas.apply(("town", "m", TWOS))
        verdict = atlas.verdict("m", "a", "A")
        atlas.apply(("drop", "m"), ("town", "m", Town("ab", ("aa", ""))))
        self.assertEqual((atlas.kept(), atlas.decided), ([("m", "a", "A")], 1))
        self.assertEqual(atlas.verdict("m", "a", "A").rows(), verdict.rows())
        atlas.apply(("drop", "m"), ("town", "m", Town("ab")))
        self.assertEqual(atlas.kept(), [])
        atlas.verdict("m", "a", "A")
        atlas.apply(("drop", "m"))
        atlas.undo()
        self.assertEqual((atlas.kept(), atlas.decided), ([], 2))

    def test_undo_and_redo_keep_verdicts_about_equal_towns(self):
        atlas = filled()
        atlas.apply(("rule", "k", "b", ""))
        atlas.verdict("m", "a", "A")
        atlas.verdict("k", "b", "")
        atlas.undo()
        self.assertEqual(atlas.kept(), [("m", "a", "A")])
        atlas.redo()
        self.assertEqual(atlas.kept(), [("m", "a", "A")])
        atlas.undo()
        atlas.undo()
        self.assertEqual(atlas.kept(), [])
        atlas.redo()
        self.assertEqual((atlas.kept(), atlas.decided), ([], 2))

    def test_commands_keep_and_count_nothing(self):
        atlas = filled()
        atlas.apply(("claim", "w", "even", "m", "ab", "ba"))
        self.assertEqual((atlas.kept(), atlas.decided), ([], 0))
        atlas.town_of("m")
        atlas.claim_of("w")
        self.assertEqual((atlas.kept(), atlas.decided), ([], 0))

    def test_errors_keep_verdicts(self):
        atlas = filled()
        atlas.verdict("m", "a", "A")
        self.check_error(atlas, [("strike", "m", 0), ("drop", "o")], "UnknownName", "o")
        self.assertEqual(atlas.kept(), [("m", "a", "A")])


class GuardTest(AtlasCase):
    def test_broken_claims(self):
        atlas = filled(GuardedAtlas)
        self.assertEqual(atlas.history(), (1, 0))
        self.check_error(atlas, [("strike", "m", 0)], "Broken", "x")
        self.check_error(atlas, [("rule", "k", "a", "")], "Broken", "y")
        self.check_error(atlas, [("claim", "b", "even", "k", "a", "b")], "Broken", "b")
        self.check_error(atlas, [("strike", "m", 0), ("unclaim", "x")], "Broken", "z")
        self.check_error(atlas, [("claim", "zz", "parted", "m", "", ""), ("claim", "a", "even", "k", "a", "")], "Broken", "a")
        with self.assertRaises(Broken):
            atlas.apply(("strike", "m", 0))
        atlas.apply(("strike", "m", 0), ("unclaim", "x"), ("unclaim", "z"))
        self.assertEqual(atlas.labels(), ["y"])

    def test_only_the_end_of_a_batch_counts(self):
        atlas = filled(GuardedAtlas)
        atlas.apply(("strike", "m", 0), ("rule", "m", "a", "A"))
        self.assertEqual(atlas.town_of("m").rules(), [("a", "A")])
        atlas.apply(("claim", "b", "even", "k", "a", "b"), ("unclaim", "b"))
        self.assertEqual(atlas.history(), (3, 0))

    def test_errors_of_commands_come_first(self):
        atlas = filled(GuardedAtlas)
        self.check_error(atlas, [("strike", "m", 0), ("drop", "n")], "UnknownName", "n")
        self.check_error(atlas, [("strike", "m", 0), ()], "InvalidCommand", None)

    def test_all_claims_are_guarded(self):
        atlas = GuardedAtlas()
        atlas.apply(("town", "m", TWOS), ("claim", "x", "even", "m", "aa", ""))
        atlas.apply(("town", "k", PLAIN))
        atlas.undo()
        atlas.undo()
        atlas.redo()
        self.check_error(atlas, [("town", "n", PLAIN), ("strike", "m", 0)], "Broken", "x")

    def test_undo_and_redo_are_not_guarded(self):
        atlas = GuardedAtlas()
        atlas.apply(("town", "m", PLAIN))
        atlas.apply(("rule", "m", "aa", ""), ("claim", "x", "even", "m", "aa", ""))
        atlas.apply(("unclaim", "x"))
        atlas.apply(("strike", "m", 0))
        for step in [atlas.undo, atlas.undo, atlas.undo, atlas.undo, atlas.redo, atlas.redo, atlas.redo, atlas.redo]:
            self.assertIsNone(step())
        self.assertEqual(atlas.history(), (4, 0))

    def test_guards_keep_and_count_nothing(self):
        atlas = filled(GuardedAtlas)
        self.assertEqual((atlas.kept(), atlas.decided), ([], 0))
        atlas.broken()
        kept = atlas.kept()
        self.assertEqual(atlas.decided, 3)
        self.check_error(atlas, [("strike", "m", 0)], "Broken", "x")
        atlas.apply(("rule", "m", "b", ""))
        self.assertEqual((atlas.kept(), atlas.decided), (kept[:1], 3))

    def test_plain_atlases_have_no_guard(self):
        atlas = filled()
        atlas.apply(("strike", "m", 0))
        self.assertEqual(atlas.broken(), ["x", "z"])


class TwinTest(AtlasCase):
    def test_twins(self):
        for kind in [Atlas, GuardedAtlas]:
            atlas = filled(kind)
            atlas.apply(("town", "n", PLAIN))
            atlas.undo()
            atlas.change_limit(5)
            atlas.verdict("m", "a", "b")
            twin = atlas.twin()
            self.assertIs(type(twin), kind)
            self.assertEqual(state_of(twin), state_of(atlas))
            self.assertEqual(twin, atlas)
            twin.redo()
            self.assertEqual((twin.names(), atlas.names()), (["k", "m", "n"], ["k", "m"]))

    def test_neither_changes_the_other(self):
        for kind in [Atlas, GuardedAtlas]:
            atlas = filled(kind)
            atlas.verdict("m", "a", "b")
            twin = atlas.twin()
            for one, other in [(twin, atlas), (atlas, twin)]:
                before = state_of(other)
                one.change_limit(3)
                one.verdict("k", "a", "b")
                one.apply(("unclaim", "x"), ("town", "n", PLAIN), ("rename", "k", "l"))
                one.undo()
                one.undo()
                self.assertEqual(state_of(other), before)
                one.redo()
                self.assertEqual(state_of(other), before)

    def test_guards_of_twins(self):
        twin = filled(GuardedAtlas).twin()
        self.check_error(twin, [("strike", "m", 0)], "Broken", "x")
        filled(Atlas).twin().apply(("strike", "m", 0))

    def test_limit_below_the_number_of_towns(self):
        atlas = filled()
        atlas.undo()
        atlas.change_limit(1)
        atlas.redo()
        self.assertEqual(state_of(atlas.twin()), state_of(atlas))


class QueriesTest(AtlasCase):
    def test_length_and_names(self):
        atlas = filled()
        self.assertEqual(len(atlas), 2)
        self.assertTrue("m" in atlas)
        self.assertFalse("x" in atlas)
        self.assertFalse("" in atlas)
        self.assertFalse("m" in Atlas())

    def test_unknown(self):
        atlas = filled()
        self.assertEqual(raised(lambda: atlas.town_of("x")), ("UnknownName", "x"))
        self.assertEqual(raised(lambda: atlas.claim_of("m")), ("UnknownName", "m"))
        with self.assertRaises(LookupError):
            atlas.town_of("n")

    def test_equality(self):
        atlas = filled()
        other = filled(GuardedAtlas)
        self.assertTrue(atlas == other and other == atlas and not atlas != other)
        other.change_limit(12)
        other.apply()
        other.verdict("m", "a", "b")
        self.assertEqual(atlas, other)
        for command in [("unclaim", "x"), ("town", "n", PLAIN), ("rename", "k", "l"), ("rule", "k", "ab", "ba"),
                        ("claim", "w", "even", "m", "", "")]:
            changed = filled()
            changed.apply(command)
            self.assertNotEqual(atlas, changed)
        self.assertEqual(Atlas(), GuardedAtlas())
        self.assertNotEqual(atlas, Atlas())
        for value in [None, 0, "m", {}, [], ["k", "m"], PLAIN]:
            self.assertFalse(atlas == value)
            self.assertFalse(Atlas() == value)
            self.assertTrue(Atlas() != value)

    def test_order_of_making_does_not_count(self):
        one, other = Atlas(), Atlas()
        one.apply(("town", "m", TWOS), ("town", "k", PLAIN))
        other.apply(("town", "k", PLAIN), ("town", "m", TWOS))
        self.assertEqual(one, other)
        self.assertEqual(other.names(), ["k", "m"])

    def test_lists_are_new(self):
        atlas = filled()
        atlas.verdict("m", "a", "b")
        for query in [atlas.names, atlas.labels, atlas.kept, atlas.broken]:
            before = query()
            query().append("more")
            query().clear()
            self.assertEqual(query(), before)
        atlas.town_of("m").rules().clear()
        self.assertEqual(atlas.town_of("m"), TWOS)

    def test_attributes_cannot_be_assigned(self):
        atlas = filled()
        for name in ["busy", "decided"]:
            with self.assertRaises(AttributeError):
                setattr(atlas, name, 1)

    def test_keywords(self):
        atlas = filled()
        self.assertEqual(atlas.town_of(name="m"), TWOS)
        self.assertEqual(atlas.claim_of(label="x"), ("even", "m", "aa", ""))
        self.assertTrue(atlas.holds(label="x"))
        self.assertTrue(atlas.verdict(other="A", one="a", name="m"))
