"""Regions: the places near two words, where a sum of moved rules is looked for.

A term is a pair of a rule and the coordinates of a place. A sum is found as a
dict of counts by terms, and its rows are told by tuples near the place of zeros.
"""

from roundswap.equations import ONE, solution
from roundswap.tables import distance, less
from roundswap.walks import stepped


class Region:
    """Places that grow from those on the ways of two words."""

    def __init__(self, basis, one, other):
        self.basis = basis
        self.goal = basis.walk_between(one, other)
        self.inside = {}
        self.closed = False
        for word in (one, other):
            for place in places_on(basis, word):
                self.inside[place] = True

    def near_sum(self, most):
        """Return a sum of moved rules if at most so many terms are near and there is one, or None. Then grow."""
        if self.closed or self.many_terms() > most:
            return None
        found = self.solve()
        self.grow()
        return found

    def many_terms(self):
        """Return the number of rules moved to places inside."""
        return len(self.inside) * len(self.basis.sources)

    def solve(self):
        """Return a sum of the rules moved to the places inside, or None."""
        terms = [(number, place) for number in range(len(self.basis.sources)) for place in self.inside]
        equations = {}
        for at, (number, place) in enumerate(terms):
            moved = self.basis.moved_walk(self.basis.sources[number], place)
            for street, count in moved.items():
                equation = equations.setdefault(street, {})
                equation[at] = count
        for street, count in self.goal.items():
            equation = equations.setdefault(street, {})
            equation[ONE] = -count
        values = solution(list(equations.values()), len(terms))
        if values is None:
            return None
        return {term: values[at] for at, term in enumerate(terms) if values.get(at, 0) != 0}

    def grow(self):
        """Put the neighbours of all places inside, or close the region if there are no others."""
        grid = self.basis.grid
        width = len(grid.zeros)
        ways = [grid.coordinates(stepped(grid.zeros, letter, by)) for letter in range(width) for by in (1, -1)]
        before = list(self.inside)
        for place in before:
            for way in ways:
                self.inside[grid.shifted(place, way)] = True
        self.closed = len(self.inside) == len(before)


def places_on(basis, word):
    """Return the coordinates of the places at which the steps of a word begin or end."""
    here = basis.grid.zeros
    found = [basis.grid.coordinates(here)]
    for sign in word:
        letter = basis.alphabet.index(sign.lower())
        here = stepped(here, letter, 1 if sign.islower() else -1)
        found.append(basis.grid.coordinates(here))
    return found


def rows_of_terms(town, grid, terms):
    """Return the rows of a sum for counts by terms."""
    needed = town.table.rows()
    return sorted([(near_counts(needed, town.table.place(grid.counts_at(place))), number, count)
                   for (number, place), count in terms.items()])


def near_counts(rows, counts):
    """Return a tuple at the same place whose absolute numbers add up to little."""
    best = counts
    nearer = True
    while nearer:
        tries = [less(best, row, times) for row in rows for times in (1, -1)]
        first = min(tries, key=distance, default=best)
        nearer = distance(first) < distance(best)
        if nearer:
            best = first
    return best
