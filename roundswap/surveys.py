"""Surveys of a town: the finite tables that cover its table, and the least toll towns that part words."""

from roundswap.schemes import Scheme
from roundswap.tables import Table, added, covering_rows, less
from roundswap.tolls import TollTown
from roundswap.walks import steps_of
from roundswap.words import counts_of

FIRST_LIMIT = 64


class Difference:
    """Two words as toll towns see them: the streets of their walks, and the counts between their ends."""

    def __init__(self, letters, one, other):
        self.between = streets_between(letters, one, other)
        self.apart = less(counts_of(one, letters), counts_of(other, letters), 1)


class Field:
    """A finite table that covers the table of a town, with what its streets are worth."""

    def __init__(self, town, rows):
        self.normal = rows
        self.wide = town.width
        places = list(Table(town.width, rows).places())
        self.many = len(places)
        walks = []
        sums = {}
        for one, other in town.rules():
            walk = self.numbered(streets_between(town.letters, one, other))
            self.add_sums(sums, walk, places)
            walks.extend([self.moved_to(walk, sums, at) for at in range(self.many)])
        self.scheme = Scheme(walks, self.many * self.wide)

    def place_number(self, counts):
        """Return the number of the place of a tuple among the places in ascending order."""
        number = 0
        rest = counts
        for at, row in enumerate(self.normal):
            rest = less(rest, row, rest[at] // row[at])
            number = number * row[at] + rest[at]
        return number

    def numbered(self, streets):
        """Return a walk as a dict by the numbers of streets."""
        walk = {}
        for place, letter, number in streets:
            street = self.place_number(place) * self.wide + letter
            walk[street] = walk.get(street, 0) + number
        return {street: number for street, number in walk.items() if number != 0}

    def add_sums(self, sums, walk, places):
        """Put in, for each place of a walk that is new, the numbers of its sums with all places."""
        for street in walk:
            begin = street // self.wide
            if begin not in sums:
                sums[begin] = [self.place_number(added(places[begin], place)) for place in places]

    def moved_to(self, walk, sums, at):
        """Return a walk with its places moved by the place with a number."""
        wide = self.wide
        return {sums[street // wide][at] * wide + street % wide: number for street, number in walk.items()}

    def has_two_ends(self, difference):
        """Return whether two words end at different places."""
        return self.place_number(difference.apart) != 0

    def separates(self, difference):
        """Return whether some toll town with this table parts two words."""
        return self.has_two_ends(difference) or len(self.scheme.worth(self.numbered(difference.between))) > 0

    def least_modulus(self, difference, bound):
        """Return the least modulus up to a bound of such a toll town, or None."""
        if self.has_two_ends(difference):
            return 1
        found = self.scheme.least_for(self.numbered(difference.between), bound)
        return None if found is None else found[0]

    def parting(self, difference, modulus):
        """Return a toll town with the least modulus that parts two words."""
        fees = [0] * (self.many * self.wide)
        if modulus > 1:
            least, street = self.scheme.least_for(self.numbered(difference.between), modulus)
            fees = self.scheme.values_for(least, street, len(fees))
        rows = [tuple(fees[at * self.wide:(at + 1) * self.wide]) for at in range(self.many)]
        return TollTown(Table(self.wide, self.normal), modulus, rows)


class Survey:
    """The fields of a town, made when they are needed and kept."""

    def __init__(self, town):
        self.home = town
        self.tables = {}
        self.fields = {}

    def tables_with(self, index):
        """Return the normal rows of all tables with an index that cover the table of the town, ascending."""
        if index not in self.tables:
            needed = self.home.table.rows()
            self.tables[index] = covering_rows(needed, self.home.width, index)
        return self.tables[index]

    def field_of(self, rows):
        """Return the field with these normal rows."""
        key = tuple(rows)
        if key not in self.fields:
            self.fields[key] = Field(self.home, rows)
        return self.fields[key]

    def separates_at(self, difference, index):
        """Return whether some toll town with this index parts two words."""
        for rows in self.tables_with(index):
            if self.field_of(rows).separates(difference):
                return True
        return False

    def effort_for(self, index):
        """Return how many places all tables with an index have together."""
        return 1 + index * len(self.tables_with(index))

    def least(self, difference, sieve):
        """Return one of the least toll towns that part two words, which are not even.

        The sieve knows tables that do not part them.
        """
        limit = FIRST_LIMIT
        found = self.least_within(difference, sieve, limit)
        while found is None:
            # Great moduli are looked for only if all smaller sums are tried,
            # because it takes long to find the divisors of a great number.
            limit = 4 * limit
            found = self.least_within(difference, sieve, limit)
        return found

    def least_within(self, difference, sieve, limit):
        """Return a least toll town whose index and modulus add up to at most a limit, or None."""
        best = None
        index = 1
        smallest = sieve.smallest_modulus(limit)
        while index + smallest <= limit and self.is_possible(index):
            for rows in self.tables_passing(sieve, index):
                field = self.field_of(rows)
                modulus = field.least_modulus(difference, limit - index)
                if modulus is not None and index + modulus <= limit:
                    best = (field, modulus)
                    limit = index + modulus - 1
            index = index + 1
        if best is None:
            return None
        field, modulus = best
        return field.parting(difference, modulus)

    def tables_passing(self, sieve, index):
        """Return the normal rows of the tables with an index that a sieve lets pass, ascending."""
        if not sieve.lets_index_pass(index):
            return []
        return [rows for rows in self.tables_with(index) if sieve.lets_table_pass(rows, index)]

    def is_possible(self, index):
        """Return whether a table with at least this index can cover the table of the town."""
        size = self.home.table.size
        return size is None or index <= size


def streets_between(letters, one, other):
    """Return the streets, as tuples (counts, letter, number), of a walk less another one in the table without rows."""
    totals = {}
    for word, sign in ((one, 1), (other, -1)):
        for place, letter, number in steps_of(word, letters, (0,) * len(letters)):
            totals[(place, letter)] = totals.get((place, letter), 0) + sign * number
    return [(place, letter, number) for (place, letter), number in totals.items() if number != 0]
