"""Sieves: finite tables that cannot part two words are left out without a closer look."""

from roundswap.bases import Remainder, divides
from roundswap.equations import common_divisor
from roundswap.walks import stepped
from roundswap.words import path_to

EFFORT = 10000
FIRST_INDEX = 8
FIRST_SINGLE_INDEX = 48


class Sieve:
    """The basis of a town, and the walk between two words.

    It is of use only if the basis is complete and the words end at one place.
    All walks of words that come round are sums of moved loops. In a toll town,
    a walk is worth as much as the same walk moved by a sum of its table. So no
    toll town with a table parts the words, if the walk between them is a sum of
    moved rules and of differences of loops that are moved by sums of the table.
    """

    def __init__(self, basis, town, one, other):
        self.basis = basis
        self.goal = basis.walk_between(one, other)
        self.useful = basis.is_complete() and town.place_of(one) == town.place_of(other)
        loops = [reduced_walk(basis, basis.walk_between(word, "")) for word in loop_words(town)]
        self.loops = [loop for loop in loops if loop]
        self.carried_loops = {}
        self.order = order_of(basis, self.goal) if self.useful else 0

    def smallest_modulus(self, bound):
        """Return a number up to a bound that no modulus of a toll town that parts the words is less than.

        If the walk between them, as many times as its order tells, is a sum of
        moved rules, every such modulus has a divisor in common with the order.
        """
        if not self.useful or self.order == 0:
            return 1
        return least_divisor(self.order, bound)

    def lets_index_pass(self, index):
        """Return whether some table with an index may part the words."""
        if index < FIRST_INDEX:
            return True
        # A table has all multiples of its index among its sums.
        zeros = self.basis.origin()
        return self.lets_pass([self.basis.grid.shifted(zeros, stepped(zeros, at, index)) for at in range(len(zeros))])

    def lets_table_pass(self, rows, index):
        """Return whether the table with these rows and this index may part the words."""
        return index < FIRST_SINGLE_INDEX or self.lets_pass([self.basis.grid.coordinates(row) for row in rows])

    def lets_pass(self, ways):
        """Return whether a table with these coordinates among its sums may part the words."""
        if not self.useful:
            return True
        wider = self.basis.copied()
        for way in ways:
            for number, loop in enumerate(self.loops):
                walk = self.carried(number, way)
                self.basis.add_moved(walk, -1, self.basis.origin(), loop)
                wider.wait(walk, [])
        wider.work(EFFORT)
        # Where this takes long, it would take longer for greater tables.
        self.useful = wider.is_complete()
        return len(reduced_walk(wider, self.goal)) > 0

    def carried(self, number, way):
        """Return a new walk, reduced, that is worth as much as a loop moved by coordinates.

        It is moved and reduced step by step, because walks far away from the
        place of zeros become long on their way back. The steps along the first
        coordinate are kept, since they are needed most.
        """
        walk = self.carried_first(number, way[0]) if way else self.loops[number]
        for at in range(1, len(way)):
            by = stepped(self.basis.origin(), at, 1 if way[at] > 0 else -1)
            for step in range(abs(way[at])):
                walk = reduced_walk(self.basis, self.basis.moved_walk(walk, by))
        return {street: count for street, count in walk.items()}

    def carried_first(self, number, steps):
        """Return a reduced walk that is worth as much as a loop moved along the first coordinate."""
        sign = 1 if steps > 0 else -1
        walks = self.carried_loops.setdefault((number, sign), [self.loops[number]])
        by = stepped(self.basis.origin(), 0, sign)
        while len(walks) <= abs(steps):
            walks.append(reduced_walk(self.basis, self.basis.moved_walk(walks[-1], by)))
        return walks[abs(steps)]


def reduced_walk(basis, walk):
    """Return what is left of a walk that a basis reduces, or of it so far if this takes too long."""
    remainder = Remainder(walk, [])
    basis.reduce_all(remainder, EFFORT)
    return remainder.whole()


def order_of(basis, walk):
    """Return how many times a walk is a sum of moved rules, at least, or 0 if it never is, by a complete basis."""
    order = 1
    rest = reduced_walk(basis, walk)
    while rest:
        head = max(rest)
        leads = [basis.lead(member) for member in basis.active if divides(basis.heads[member], head)]
        if not leads:
            return 0
        times = min(leads) // common_divisor([min(leads), rest[head]])
        order = order * times
        rest = reduced_walk(basis, {street: times * number for street, number in rest.items()})
    return order


def least_divisor(number, bound):
    """Return the least divisor from 2 on of a number greater than 1, or the bound if it is less."""
    divisor = 2
    while divisor < bound and number % divisor != 0:
        divisor = divisor + 1
    return divisor


def loop_words(town):
    """Return words that come round, of which all others are made: for pairs of letters and for rows of the table."""
    letters = town.letters
    pairs = [(one, other) for at, one in enumerate(letters) for other in letters[at + 1:]]
    swaps = [one + other + one.upper() + other.upper() for one, other in pairs]
    return swaps + [path_to(row, letters) for row in town.table.rows()]
