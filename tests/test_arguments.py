"""Tests of points 1 and 2 over the whole program: names of arguments, lists that are passed in and returned, state."""

import ast
import importlib
import inspect
import pathlib
import unittest

from roundswap.atlas import Atlas, GuardedAtlas
from roundswap.chains import chain_of, is_chain, walked
from roundswap.desks import Desk
from roundswap.errors import Missing, NothingLeft, TownError, UnknownName
from roundswap.leads import Lead
from roundswap.sums import is_sum, size_of_sum, sum_within
from roundswap.tables import Table
from roundswap.tolls import TollTown
from roundswap.towns import Town
from roundswap.verdicts import Even, decide
from roundswap.walks import Walk

PACKAGE = pathlib.Path(__file__).resolve().parent.parent / "roundswap"

# The arguments of each function and method of the interface; those behind a star are keyword-only.
ARGUMENTS = """
words.is_word word letters
words.opposite word
words.shortened word
words.counts word letters
words.precedes one other letters
words.words_of letters length
phrases.read_word text letters
phrases.format_word word
tables.Table width rows
tables.Table.rows
tables.Table.place counts
tables.Table.places
tables.Table.covers other
tables.Table.joined other
tables.tables_of table index
walks.Walk table streets
walks.Walk.of table word letters * start
walks.Walk.streets
walks.Walk.at_street place letter
walks.Walk.ends
walks.Walk.moved counts
walks.Walk.times count
walks.Walk.plus other
walks.Walk.minus other
towns.Town letters *rules
towns.Town.rules
towns.Town.comes_round word
towns.Town.place_of word
towns.Town.walk_of word * start
towns.Town.moved_rule number counts
towns.Town.with_rules *more
towns.Town.without number
towns.Town.joined other
towns.Town.text
towns.Town.read text
tolls.TollTown table modulus tolls
tolls.TollTown.tolls
tolls.TollTown.toll place letter
tolls.TollTown.end word letters * start
tolls.TollTown.parts one other letters
tolls.TollTown.fault town
tolls.TollTown.keeps town
tolls.toll_count town table modulus
sums.is_sum town one other rows
sums.size_of_sum rows
sums.sum_within town one other reach
verdicts.decide town one other
verdicts.Verdict town one other
verdicts.Verdict.told
verdicts.Even town one other rows
verdicts.Even.rows
verdicts.Even.told
verdicts.Parted town one other toll_town
verdicts.Parted.told
verdicts.is_even town one other
verdicts.commute town one other
verdicts.least_power town word * most
verdicts.unlike_rule one other
chains.applied town word step
chains.walked town word steps
chains.is_chain town one other steps
chains.chain_of town one other rows
turning.turner letters one other
turning.rolled letters word
turning.word_of letters walk
leads.Lead source target words
leads.Lead.same town
leads.Lead.words
leads.Lead.image word
leads.Lead.__call__ word
leads.Lead.keeps number
leads.Lead.fault
leads.Lead.then other
leads.Lead.alike other
firsts.first_word town word
firsts.first_words town most
atlas.Atlas * limit
atlas.GuardedAtlas * limit
atlas.Atlas.change_limit limit
atlas.Atlas.apply *commands
atlas.Atlas.undo
atlas.Atlas.redo
atlas.Atlas.history
atlas.Atlas.names
atlas.Atlas.labels
atlas.Atlas.town_of name
atlas.Atlas.claim_of label
atlas.Atlas.verdict name one other
atlas.Atlas.holds label
atlas.Atlas.broken
atlas.Atlas.kept
atlas.Atlas.twin
pages.format_atlas atlas
pages.parse_atlas text
desks.Desk * atlas
desks.Desk.atlas
desks.Desk.ask line
desks.Desk.__call__ line
desks.Desk.log
"""
PROPERTIES = """
tables.Table width size
walks.Walk table
towns.Town letters width table
tolls.TollTown table modulus size
verdicts.Verdict town one other
verdicts.Parted toll_town
leads.Lead source target
atlas.Atlas limit busy decided
"""
DEFAULTS = {"tables.Table": {"rows": ()}, "walks.Walk": {"streets": ()}, "walks.Walk.of": {"start": None},
            "towns.Town.walk_of": {"start": None}, "tolls.TollTown.end": {"start": None}, "desks.Desk": {"atlas": None},
            "verdicts.least_power": {"most": 12}, "atlas.Atlas": {"limit": 8}, "atlas.GuardedAtlas": {"limit": 8}}


def found_at(path):
    """Return what a dotted path below the package leads to."""
    module, *names = path.split(".")
    value = importlib.import_module(f"roundswap.{module}")
    for name in names:
        value = getattr(value, name)
    return value


def parameters_of(path):
    """Return the parameters behind the object itself."""
    value = found_at(path)
    listed = list(inspect.signature(value).parameters.values())
    is_bound = inspect.isclass(value) or inspect.ismethod(value) or path.count(".") < 2
    return listed if is_bound else listed[1:]


def as_listed(parameters):
    """Return parameters as the table above writes them."""
    words = []
    for one in parameters:
        if one.kind == one.KEYWORD_ONLY and "*" not in words:
            words.append("*")
        words.append(f"*{one.name}" if one.kind == one.VAR_POSITIONAL else one.name)
    return words


class ArgumentsTest(unittest.TestCase):
    def test_names_of_arguments(self):
        for line in ARGUMENTS.strip().splitlines():
            path, *words = line.split()
            parameters = parameters_of(path)
            self.assertEqual(as_listed(parameters), words, path)
            self.assertNotIn("POSITIONAL_ONLY", [one.kind.name for one in parameters])
            defaults = {one.name: one.default for one in parameters if one.default is not one.empty}
            self.assertEqual(defaults, DEFAULTS.get(path, {}), path)

    def test_properties(self):
        for line in PROPERTIES.strip().splitlines():
            path, *names = line.split()
            for name in names:
                self.assertIsInstance(inspect.getattr_static(found_at(path), name), property, (path, name))

    def test_class_values(self):
        self.assertEqual((Town.MOST, Atlas.MOST, GuardedAtlas.MOST), (6, 12, 12))

    def test_keyword_only_arguments(self):
        town, table = Town("a"), Table(1, [(2,)])
        for call in [lambda: Walk.of(table, "a", "a", (0,)), lambda: town.walk_of("a", (0,)), lambda: Atlas(3),
                     lambda: TollTown(table, 1, [(0,), (0,)]).end("a", "a", (0,)), lambda: Desk(Atlas())]:
            with self.assertRaises(TypeError):
                call()


class WholeProgramTest(unittest.TestCase):
    def test_nothing_is_imported_but_the_package(self):
        for path in PACKAGE.glob("*.py"):
            for node in ast.walk(ast.parse(path.read_text())):
                self.assertNotIsInstance(node, ast.Import)
                if isinstance(node, ast.ImportFrom):
                    self.assertTrue(node.module.startswith("roundswap."))

    def test_bases_of_errors(self):
        desk = Desk()
        with self.assertRaises(Missing) as caught:
            desk.atlas().town_of("m")
        self.assertEqual((type(caught.exception), caught.exception.tag, caught.exception.name),
                         (UnknownName, "UnknownName", "m"))
        with self.assertRaises(IndexError) as caught:
            desk.atlas().undo()
        self.assertEqual((type(caught.exception), caught.exception.tag), (NothingLeft, "NothingLeft"))
        with self.assertRaises(TownError) as caught:
            desk.atlas().apply(())
        self.assertEqual((caught.exception.tag, caught.exception.first), ("InvalidCommand", None))

    def test_lists_that_are_passed_in(self):
        rows, streets, tolls = [(2, 0), (0, 3)], [((0, 0), 0, 1)], [(0, 1)] * 6
        words, addends, steps = ["a", "b"], [((0, 0), 0, 1)], [("rule", 0, True, 0)]
        town = Town("ab", ("aa", ""))
        table = Table(2, rows)
        walk, barrier, lead = Walk(table, streets), TollTown(table, 2, tolls), Lead(town, town, words)
        even = Even(town, "aa", "", addends)
        self.assertTrue(is_sum(town, "aa", "", addends) and is_chain(town, "aa", "", steps))
        self.assertEqual((size_of_sum(addends), list(walked(town, "aa", steps))), (1, ["aa", ""]))
        chain_of(town, "aa", "", addends)
        self.assertEqual((rows, streets, tolls), ([(2, 0), (0, 3)], [((0, 0), 0, 1)], [(0, 1)] * 6))
        self.assertEqual((words, addends, steps), (["a", "b"], [((0, 0), 0, 1)], [("rule", 0, True, 0)]))
        for some in [rows, streets, tolls, words, addends, steps]:
            some.clear()
        self.assertEqual((table.rows(), walk.streets()), ([(2, 0), (0, 3)], [((0, 0), 0, 1)]))
        self.assertEqual((barrier.tolls(), lead.words(), even.rows()), ([(0, 1)] * 6, ["a", "b"], [((0, 0), 0, 1)]))

    def test_lists_that_are_returned(self):
        town = Town("ab", ("aa", ""), ("ab", "ba"))
        table = Table(2, [(2, 0), (0, 3)])
        barrier = TollTown(table, 2, [(0, 1)] * 6)
        walk, lead, verdict = Walk.of(table, "abA", "ab"), Lead.same(town), decide(town, "aab", "b")
        atlas, desk = Atlas(), Desk()
        atlas.apply(("town", "m", town), ("claim", "x", "even", "m", "a", "b"))
        atlas.broken()
        desk.ask("names")
        for query in [table.rows, walk.streets, walk.ends, town.rules, barrier.tolls, verdict.rows, lead.words, atlas.names,
                      atlas.labels, atlas.broken, atlas.kept, desk.log, lambda: sum_within(town, "aab", "b", 1),
                      lambda: chain_of(town, "aab", "b", verdict.rows())]:
            before = query()
            self.assertIsInstance(before, list)
            self.assertGreater(len(before), 0)
            query().clear()
            self.assertEqual(query(), before)

    def test_tuples_where_lists_are_expected(self):
        town = Town("ab", ("aa", ""))
        table = Table(2, ((2, 0), (0, 3)))
        self.assertEqual(table, Table(2, [(2, 0), (0, 3)]))
        self.assertEqual(Walk(table, (((0, 0), 0, 1),)), Walk(table, [((0, 0), 0, 1)]))
        self.assertEqual(TollTown(table, 2, ((0, 1),) * 6), TollTown(table, 2, [(0, 1)] * 6))
        self.assertEqual(Lead(town, town, ("a", "b")), Lead.same(town))
        addends = (((0, 0), 0, 1),)
        self.assertTrue(is_sum(town, "aa", "", addends) and is_chain(town, "aa", "", (("rule", 0, True, 0),)))
        self.assertEqual(size_of_sum(addends), 1)
        self.assertEqual(chain_of(town, "aa", "", addends), chain_of(town, "aa", "", list(addends)))
        self.assertEqual(list(walked(town, "aa", (("rule", 0, True, 0),))), ["aa", ""])
        self.assertEqual(Even(town, "aa", "", addends).rows(), list(addends))

    def test_returned_values_may_be_passed_back(self):
        town = Town("ta", ("taT", "aa"))
        one, other = "t" * 12 + "a" + "T" * 12, "tt" + "a" * 1024 + "TT"
        verdict = decide(town, one, other)
        self.assertTrue(is_sum(town, one, other, verdict.rows()))
        barrier = decide(town, one + "a", other).toll_town
        self.assertEqual(TollTown(barrier.table, barrier.modulus, barrier.tolls()), barrier)
        image = Lead(town, town, ["t" * 50, "ta" * 20]).image("taTA" * 15)
        self.assertTrue(decide(town, image, image + "aA"))
