"""Tests of desks: point 22, interface section roundswap/desks.py."""

import unittest

from roundswap.atlas import Atlas, GuardedAtlas
from roundswap.desks import Desk
from roundswap.towns import Town


def desk_with_town(kind=Atlas):
    """Return a desk with a town and a claim."""
    desk = Desk(atlas=kind())
    assert desk.ask("town m ta; t a T = a^2") == "ok"
    assert desk.ask("claim x even m t a T = a a") == "ok"
    return desk


class DeskCase(unittest.TestCase):
    def check(self, desk, lines):
        """Check the answers to lines, which are pairs of a line and its answer."""
        for line, answer in lines:
            self.assertEqual(desk.ask(line), answer, line)

    def check_nothing_changes(self, desk, lines):
        """Check answers to lines that do not change the atlas."""
        before = desk.atlas().twin()
        self.check(desk, lines)
        self.assertEqual((desk.atlas(), desk.atlas().history()), (before, before.history()))


class CommandsTest(DeskCase):
    def test_town(self):
        desk = Desk()
        self.check(desk, [("town m ta; t a T = a^2; [t, a] = (t a)^-2", "ok"), ("show m",
                          "ta; t a t^-1 = a^2; t a t^-1 a^-1 = a^-1 t^-1 a^-1 t^-1")])
        self.check(desk, [("town n  ab ;a=b  ; 1=  1 ", "ok"), ("show n", "ab; a = b; 1 = 1")])
        self.assertEqual(desk.atlas().town_of("n"), Town("ab", ("a", "b"), ("", "")))
        self.assertEqual(desk.atlas().history(), (2, 0))

    def test_town_errors_in_order(self):
        desk = desk_with_town()
        desk.atlas().change_limit(1)
        self.check_nothing_changes(desk, [
            ("town M ", "error InvalidName"),
            ("town abcdefghi ab; a", "error InvalidName"),
            ("town m ", "error InvalidLetters"),
            ("town n ", "error InvalidLetters"),
            ("town m abb; a", "error InvalidLetters"),
            ("town m ab; a", "error ParseError"),
            ("town n ab; a = (a^99)^9; a", "error ParseError"),
            ("town n ab; a = (a^99)^9; c = a", "error ParseError"),
            ("town n ab; a = (a^99)^9; a = a^17", "error TooLong"),
            ("town n ab; a = a^17", "error InvalidRule"),
            ("town m ab; a = b", "error DuplicateName"),
            ("town n ab; a = b", "error CapacityExceeded"),
        ])

    def test_rule(self):
        desk = desk_with_town()
        self.check(desk, [("rule m a^3=1", "ok"), ("rule m  t = (a) ", "ok"),
                          ("show m", "ta; t a t^-1 = a^2; a^3 = 1; t = a")])

    def test_rule_errors_in_order(self):
        desk = desk_with_town()
        self.check_nothing_changes(desk, [
            ("rule n ( = (", "error UnknownName"),
            ("rule x a = a", "error UnknownName"),
            ("rule m b = (a^99)^9", "error ParseError"),
            ("rule m =", "error ParseError"),
            ("rule m (a^99)^9 = (", "error TooLong"),
            ("rule m a = (", "error ParseError"),
            ("rule m a = a = a", "error ParseError"),
            ("rule m a^17 = (a^99)^9", "error TooLong"),
            ("rule m a^17 = a", "error InvalidRule"),
        ])

    def test_strike(self):
        desk = desk_with_town()
        self.check(desk, [("rule m a = 1", "ok"), ("strike m 0", "ok"), ("show m", "ta; a = 1"), ("strike m 1",
                          "error UnknownRule"), ("strike m 99", "error UnknownRule"), ("strike n 99", "error UnknownName"),
                          ("strike m 0", "ok"), ("strike m 0", "error UnknownRule"), ("show m", "ta")])

    def test_rename(self):
        desk = desk_with_town()
        self.check(desk, [("rename m n", "ok"), ("names", "n"), ("rename m k", "error UnknownName"),
                          ("rename m K", "error UnknownName"), ("rename n K", "error InvalidName"),
                          ("rename n n", "error DuplicateName")])
        self.assertEqual(desk.atlas().claim_of("x")[1], "n")

    def test_drop(self):
        desk = desk_with_town()
        self.check(desk, [("drop m", "error InUse"), ("drop x", "error UnknownName"), ("unclaim x", "ok"), ("drop m", "ok"),
                          ("names", "none"), ("drop m", "error UnknownName")])

    def test_claim(self):
        desk = desk_with_town()
        self.check(desk, [("claim y parted m a=1", "ok"), ("claim even even m [t, a] = (t a)^0", "ok")])
        self.assertEqual(desk.atlas().claim_of("y"), ("parted", "m", "a", ""))
        self.assertEqual(desk.atlas().claim_of("even"), ("even", "m", "taTA", ""))

    def test_claim_errors_in_order(self):
        desk = desk_with_town()
        self.check_nothing_changes(desk, [
            ("claim X odd n ( = (", "error InvalidName"),
            ("claim x odd n ( = (", "error DuplicateName"),
            ("claim y odd n ( = (", "error InvalidCommand"),
            ("claim y even n ( = (", "error UnknownName"),
            ("claim y even m ( = (a^99)^9", "error ParseError"),
            ("claim y even m (a^99)^9 = (", "error TooLong"),
            ("claim y even m a = (", "error ParseError"),
            ("claim y even m a = b", "error ParseError"),
            ("claim y even m a = (a^99)^9", "error TooLong"),
        ])
        for at in range(19):
            desk.ask(f"claim {'abcdefghijklmnopqrst'[at]} even m 1 = 1")
        self.check_nothing_changes(desk, [("claim y even m a = (", "error ParseError"),
                                          ("claim y even m a = a", "error CapacityExceeded")])

    def test_unclaim(self):
        desk = desk_with_town()
        self.check(desk, [("unclaim m", "error UnknownName"), ("unclaim x", "ok"), ("labels", "none"),
                          ("unclaim x", "error UnknownName")])

    def test_undo_and_redo(self):
        desk = desk_with_town()
        self.check(desk, [("undo", "ok"), ("labels", "none"), ("undo", "ok"), ("names", "none"), ("undo", "error NothingLeft"),
                          ("redo", "ok"), ("names", "m"), ("redo", "ok"), ("labels", "x"), ("redo", "error NothingLeft")])

    def test_a_guarded_atlas(self):
        desk = desk_with_town(GuardedAtlas)
        self.check_nothing_changes(desk, [("strike m 0", "error Broken"), ("claim y even m a = 1", "error Broken")])
        self.check(desk, [("unclaim x", "ok"), ("strike m 0", "ok")])

    def test_errors_and_questions_are_no_steps(self):
        desk = desk_with_town()
        self.check_nothing_changes(desk, [("names", "m"), ("strike m 5", "error UnknownRule"), ("huh", "what"),
                                          ("even m a = a", "yes")])


class QuestionsTest(DeskCase):
    def test_names_and_labels(self):
        desk = Desk()
        self.check(desk, [("names", "none"), ("labels", "none"), ("town m ab", "ok"), ("town ab ab", "ok"),
                          ("town a ab", "ok"), ("names", "a ab m"), ("claim z even a 1 = 1", "ok"),
                          ("claim y even a 1 = 1", "ok"), ("labels", "y z")])

    def test_show(self):
        desk = desk_with_town()
        self.check(desk, [("show m", "ta; t a t^-1 = a^2"), ("show x", "error UnknownName"), ("show M", "error UnknownName")])

    def test_even(self):
        desk = desk_with_town()
        self.check(desk, [("even m t t a T T = a^4", "yes"), ("even m a=1", "no"), ("even m 1 = 1", "yes"),
                          ("even m [t, a] = a", "yes")])
        self.assertEqual(desk.atlas().kept(), [("m", "", ""), ("m", "a", ""), ("m", "taTA", "a"), ("m", "ttaTT", "aaaa")])
        self.assertEqual(desk.atlas().decided, 4)
        self.check(desk, [("even m (a) = 1 1", "no")])
        self.assertEqual(desk.atlas().decided, 4)

    def test_even_errors_in_order(self):
        desk = desk_with_town()
        self.check(desk, [("even n ( = (", "error UnknownName"), ("even m ( = (a^99)^9", "error ParseError"),
                          ("even m (a^99)^9 = (", "error TooLong"), ("even m a = ", "error ParseError"),
                          ("even m a = a = a", "error ParseError"), ("even m  = a", "error ParseError")])
        self.assertEqual((desk.atlas().kept(), desk.atlas().decided), ([], 0))

    def test_least(self):
        desk = desk_with_town()
        self.check(desk, [("least m a = 1", "2 3"), ("least m a^3 = 1", "4 5"), ("least m t a T = a^2", "none"),
                          ("least n ( = (", "error UnknownName"), ("least m ( = 1", "error ParseError"),
                          ("least m 1 = (a^99)^9", "error TooLong")])
        self.assertEqual(desk.atlas().kept(), [("m", "a", ""), ("m", "aaa", ""), ("m", "taT", "aa")])
        self.check(desk, [("even m a = 1", "no")])
        self.assertEqual(desk.atlas().decided, 3)

    def test_first(self):
        desk = desk_with_town()
        self.check(desk, [("first m t a T A", "a"), ("first m  a^2 ", "a^2"), ("first m t A T A^2", "t a^-2 t^-1"),
                          ("first m t T", "1"), ("first m a^7", "error TooLong"), ("first m a^8 A^2", "t a^3 t^-1"),
                          ("first m ", "error ParseError"), ("first m a = a", "error ParseError"),
                          ("first n ", "error UnknownName"), ("first m (a^99)^9", "error TooLong")])
        self.assertEqual((desk.atlas().kept(), desk.atlas().decided), ([], 0))

    def test_broken(self):
        desk = desk_with_town()
        self.check(desk, [("broken", "none"), ("claim z even m a = 1", "ok"), ("claim w parted m 1 = 1", "ok"),
                          ("broken", "w z")])
        self.assertEqual(desk.atlas().kept(), [("m", "", ""), ("m", "a", ""), ("m", "taT", "aa")])
        self.assertEqual(desk.atlas().decided, 3)
        self.check(Desk(), [("broken", "none")])


class FormsTest(DeskCase):
    def test_lines_without_a_form(self):
        desk = desk_with_town()
        lines = """
            what|huh|Names|names m|undo m|redo m|labels x|broken x|show|show m x|show  m|drop|drop m x|unclaim|unclaim x y
            rename|rename m|rename m n o|rename  m n|rename m  n|strike|strike m|strike m 0 0|strike  m 0|strike m  0
            strike m 00|strike m 01|strike m 100|strike m -1|strike m a|strike m 1a|strike m +1|strike m 0x|strike 0
            town|town m|town  m|town  m ab|rule|rule m|rule m a|rule m a b|rule  m a = b|rule m=b|rule =|even|even m
            even m a|even  m a = b|even m=a|least|least m|least m a|least  m a = b|first|first m|first  m a|claim|claim y
            claim y even|claim y even m|claim y even m a|claim  y even m a = b|claim y  even m a = b
            claim y even  m a = b|claim y even m=|claim y = b|claim y even = b|town\tm ab|evenm a = b|undo=|names=
        """
        for line in [part.strip() for row in lines.strip().splitlines() for part in row.split("|")]:
            self.check_nothing_changes(desk, [(line, "what")])
        self.check_nothing_changes(desk, [(line, "what") for line in [
            "", " ", "names ", " names", "undo ", "show m ", " show m", "drop m ", "drop ", "show ", "unclaim x ", "rename m n ",
            "rename m ", "strike m 0 ", "strike m ", "town ", "rule ", "rule m ", "even ", "even m ", "least m ", "first ",
            "claim ", "claim y even m ", "claim y even ", " town n ab", "town  ", "first  ", "broken ", "redo ", "labels "]])

    def test_lines_with_a_form(self):
        desk = desk_with_town()
        self.check(desk, [("town n ", "error InvalidLetters"), ("town n  ", "error InvalidLetters"),
                          ("first m ", "error ParseError"), ("first m  ", "error ParseError"), ("rule m =", "error ParseError"),
                          ("even m =", "error ParseError"), ("least m  =", "error ParseError"),
                          ("claim y even m =", "error ParseError"), ("first m a=", "error ParseError"),
                          ("town n a=", "error InvalidLetters"), ("even m   a  =  a  ", "yes"), ("strike m 9", "error UnknownRule"),
                          ("strike m 10", "error UnknownRule"), ("rename m =", "error InvalidName"),
                          ("drop =", "error UnknownName")])

    def test_numbers(self):
        desk = Desk()
        desk.ask("town m ab" + "; a = b" * 6)
        for number in range(5, -1, -1):
            self.assertEqual(desk.ask(f"strike m {number}"), "ok")


class DeskTest(DeskCase):
    def test_the_given_atlas_itself(self):
        for atlas in [Atlas(), GuardedAtlas(limit=1)]:
            desk = Desk(atlas=atlas)
            self.assertIs(desk.atlas(), atlas)
            desk.ask("town m ab")
            self.assertEqual(atlas.names(), ["m"])
            atlas.apply(("rename", "m", "n"))
            self.assertEqual(desk.ask("names"), "n")

    def test_a_new_atlas(self):
        desk = Desk()
        self.assertIs(type(desk.atlas()), Atlas)
        self.assertEqual((desk.atlas(), desk.atlas().limit), (Atlas(), 8))
        self.assertIs(desk.atlas(), desk.atlas())
        self.assertIsNot(Desk().atlas(), desk.atlas())
        self.assertIs(type(Desk(atlas=None).atlas()), Atlas)
        with self.assertRaises(TypeError):
            Desk(Atlas())

    def test_log(self):
        desk = Desk()
        self.assertEqual(desk.log(), [])
        lines = ["town m ab", "names", "huh", "", "undo", "undo", "names"]
        answers = [desk.ask(line) for line in lines]
        self.assertEqual(answers, ["ok", "m", "what", "what", "ok", "error NothingLeft", "none"])
        self.assertEqual(desk.log(), list(zip(lines, answers)))
        desk.log().clear()
        self.assertEqual(len(desk.log()), 7)

    def test_calls(self):
        desk = Desk()
        self.assertEqual([desk("town m ab"), desk("names"), desk(line="huh"), desk.ask(line="names")], ["ok", "m", "what", "m"])
        self.assertEqual(desk.log(), [("town m ab", "ok"), ("names", "m"), ("huh", "what"), ("names", "m")])
