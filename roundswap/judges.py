"""Judges, who find out whether words of a town are even.

Three searches take turns, because each of them is fast where another one is
slow: for a basis that reduces the difference of two walks, for a sum of rules
near the words, and for a toll town that parts the words. A basis is finite and
tells every answer in the end; the others often know it earlier.
"""

from roundswap.bases import Basis, Remainder
from roundswap.grids import Grid
from roundswap.regions import Region, rows_of_terms
from roundswap.sieves import Sieve
from roundswap.sums import size_of_sum
from roundswap.surveys import Difference, Survey

FIRST_EFFORT = 4000
FIRST_PLACES = 50
FIRST_TERMS = 250
MOST_TERMS = 3000
SHORT = 40
SMALL_BITS = 64


class Case:
    """Two words that end at one place, and what a judge found out about them.

    `remainder` is what is left of the walk between them. The terms are those of
    a sum, if one was found near the words.
    """

    def __init__(self, basis, one, other):
        self.left = one
        self.right = other
        self.remainder = Remainder(basis.walk_between(one, other), [])
        self.terms = None


class Judge:
    """A town, with what was found out about it for earlier words."""

    def __init__(self, town):
        self.home = town
        self.basis = Basis(town.letters, Grid(town.table), town.rules())
        self.survey = Survey(town)

    def is_even(self, one, other):
        """Return whether two words are even."""
        if self.home.place_of(one) != self.home.place_of(other):
            return False
        return self.is_case_even(Case(self.basis, one, other))

    def find_sum(self, one, other):
        """Return a sum for two words, or None if they are not even."""
        if self.home.place_of(one) != self.home.place_of(other):
            return None
        case = Case(self.basis, one, other)
        if not self.is_case_even(case):
            return None
        if case.terms is not None:
            return self.rows_of(case.terms)
        return self.short_rows(case)

    def is_case_even(self, case):
        """Return whether the two words of a case are even."""
        if self.is_reduced(case.remainder, FIRST_EFFORT):
            return True
        return not self.is_settled(case.remainder) and self.is_found_even(case)

    def is_found_even(self, case):
        """Return whether two words are even, where the basis does not know it at once."""
        region = Region(self.basis, case.left, case.right)
        difference = Difference(self.home.letters, case.left, case.right)
        index = turn = 1
        while not self.is_settled(case.remainder) and not region.closed:
            places = 0
            while places < FIRST_PLACES * turn * turn:
                if self.survey.separates_at(difference, index):
                    return False
                places = places + self.survey.effort_for(index)
                index = index + 1
            # Regions are slow for words that are not even, so the others go ahead.
            case.terms = region.near_sum(FIRST_TERMS * (turn - 1))
            turn = turn + 1
            if case.terms is not None or self.is_reduced(case.remainder, FIRST_EFFORT * turn * turn):
                return True
        return False

    def is_reduced(self, remainder, effort):
        """Go on with the basis, and return whether a walk is reduced to nothing by it."""
        self.basis.work(effort)
        remainder.again()
        self.basis.reduce_head(remainder, effort)
        return not remainder.rest and not remainder.fixed

    def is_settled(self, remainder):
        """Return whether the greatest street that is left of a walk stays there, whatever is still done."""
        return self.basis.is_complete() and len(remainder.fixed) > 0

    def rows_of(self, terms):
        """Return the rows of a sum with counts by terms."""
        return rows_of_terms(self.home, self.basis.grid, terms)

    def rows_of_recipe(self, case):
        """Return the rows of the sum by which the walk of a case was reduced."""
        added_up = self.basis.rules_of(case.remainder.recipe)
        return self.rows_of({term: -count for term, count in added_up.items()})

    def short_rows(self, case):
        """Return the rows of a sum for even words: that by which their walk was reduced, or a shorter one nearby."""
        region = Region(self.basis, case.left, case.right)
        if max(self.basis.bits, default=0) > SMALL_BITS:
            return self.rows_nearby(case, region)
        rows = self.rows_of_recipe(case)
        terms = region.near_sum(FIRST_TERMS) if size_of_sum(rows) > SHORT else None
        if terms is None:
            return rows
        return min([rows, self.rows_of(terms)], key=size_of_sum)

    def rows_nearby(self, case, region):
        """Return the rows of a sum in a region that grows, or those of the recipe if they are too far away.

        The numbers of such a recipe would be great.
        """
        terms = region.near_sum(MOST_TERMS)
        while terms is None and not region.closed and region.many_terms() <= MOST_TERMS:
            terms = region.near_sum(MOST_TERMS)
        if terms is None:
            return self.rows_of_recipe(case)
        return self.rows_of(terms)

    def least_toll_town(self, one, other):
        """Return one of the least toll towns that part two words, which are not even."""
        difference = Difference(self.home.letters, one, other)
        return self.survey.least(difference, Sieve(self.basis, self.home, one, other))
