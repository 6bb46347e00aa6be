"""Judges, who find out whether words of a town are even.

Three searches take turns, because each of them is fast where another one is
slow: for a basis that reduces the difference of two walks, for a sum of rules
near the words, and for a toll town that parts the words. A basis is finite and
tells every answer in the end; the others often know it earlier.
"""

from roundswap.bases import Basis, Remainder
from roundswap.grids import Grid
from roundswap.regions import Region, rows_of_terms
from roundswap.sieves import Sieve
from roundswap.sums import size_of_sum
from roundswap.surveys import Difference, Survey

FIRST_EFFORT = 2000
FIRST_PLACES = 60
FIRST_TERMS = 250
SHORT = 40


class Judge:
    """A town, with what was found out about it for earlier words."""

    def __init__(self, town):
        self.home = town
        self.basis = Basis(town.letters, Grid(town.table), town.rules())
        self.survey = Survey(town)

    def find_sum(self, one, other):
        """Return a sum for two words, or None if they are not even."""
        if self.home.place_of(one) != self.home.place_of(other):
            return None
        remainder = Remainder(self.basis.walk_between(one, other), [])
        if self.is_reduced(remainder, FIRST_EFFORT):
            return self.short_rows(remainder, one, other)
        if self.is_settled(remainder):
            return None
        return self.search(remainder, one, other)

    def search(self, remainder, one, other):
        """Return a sum for two words, or None, where the basis does not know it at once."""
        region = Region(self.basis, one, other)
        difference = Difference(self.home.letters, one, other)
        index = turn = 1
        while not self.is_settled(remainder) and not region.closed:
            places = 0
            while places < FIRST_PLACES * turn * turn:
                if self.survey.separates_at(difference, index):
                    return None
                places = places + self.survey.effort_for(index)
                index = index + 1
            # Regions are slow for words that are not even, so the others go ahead.
            terms = region.near_sum(FIRST_TERMS * (turn - 1))
            if terms is not None:
                return rows_of_terms(self.home, self.basis.grid, terms)
            turn = turn + 1
            if self.is_reduced(remainder, FIRST_EFFORT * turn * turn):
                return self.short_rows(remainder, one, other)
        return None

    def is_reduced(self, remainder, effort):
        """Go on with the basis, and return whether a walk is reduced to nothing by it."""
        self.basis.work(effort)
        remainder.again()
        self.basis.reduce_head(remainder, effort)
        return not remainder.rest and not remainder.fixed

    def is_settled(self, remainder):
        """Return whether the greatest street that is left of a walk stays there, whatever is still done."""
        return self.basis.is_complete() and len(remainder.fixed) > 0

    def short_rows(self, remainder, one, other):
        """Return the rows of the sum by which a walk was reduced, or of a shorter sum nearby."""
        added_up = self.basis.rules_of(remainder.recipe)
        rows = rows_of_terms(self.home, self.basis.grid, {term: -count for term, count in added_up.items()})
        if size_of_sum(rows) <= SHORT:
            return rows
        terms = Region(self.basis, one, other).near_sum(FIRST_TERMS)
        if terms is None:
            return rows
        return min([rows, rows_of_terms(self.home, self.basis.grid, terms)], key=size_of_sum)

    def least_toll_town(self, one, other):
        """Return one of the least toll towns that part two words, which are not even."""
        difference = Difference(self.home.letters, one, other)
        return self.survey.least(difference, Sieve(self.basis, self.home, one, other))
