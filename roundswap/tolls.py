"""Toll towns: finite tables with tolls for their streets, and how many of them keep a town."""

from roundswap.checks import is_number, is_number_tuple
from roundswap.errors import Endless, InvalidNumber, InvalidTolls, TooWide, Unlike
from roundswap.remainders import index_modulo
from roundswap.tables import added
from roundswap.walks import begin_of, check_width, street_of, walk_along
from roundswap.words import check_words, counts_of

MOST_PLACES = 64


class TollTown:
    """A table with a finite index, a modulus, and a toll for each street."""

    def __init__(self, table, modulus, tolls):
        check_finite(table)
        check_modulus(modulus)
        check_tolls(tolls, table, modulus)
        self.ground = table
        self.base = modulus
        self.fees = {place: row for place, row in zip(table.places(), tolls)}

    @property
    def table(self):
        """The table of the places."""
        return self.ground

    @property
    def modulus(self):
        """The number modulo which tolls are paid."""
        return self.base

    @property
    def size(self):
        """The index of the table."""
        return self.ground.size

    def tolls(self):
        """Return the list of the tuples of tolls, by ascending places."""
        return list(self.fees.values())

    def toll(self, place, letter):
        """Return the toll of a street."""
        begin, number = street_of(self.ground, place, letter)
        return self.fees[begin][number]

    def end(self, word, letters, *, start=None):
        """Return the pair of the place and the toll behind a word."""
        walk = walk_along(self.ground, word, letters, start)
        begin = begin_of(self.ground, start)
        behind = self.ground.place(added(begin, counts_of(word, letters)))
        paid = sum([number * self.fees[place][letter] for place, letter, number in walk.streets()])
        return behind, paid % self.base

    def parts(self, one, other, letters):
        """Return whether two words lead to different places or at different tolls."""
        check_width(letters, self.ground)
        check_words([one, other], letters)
        return self.end(one, letters) != self.end(other, letters)

    def fault(self, town):
        """Return the first rule, with its first place, that is not kept, or None."""
        check_width(town.letters, self.ground)
        for number, (one, other) in enumerate(town.rules()):
            for place in self.ground.places():
                if self.end(one, town.letters, start=place) != self.end(other, town.letters, start=place):
                    return number, place
        return None

    def keeps(self, town):
        """Return whether both sides of each rule lead to one place at one toll, from each place."""
        return self.fault(town) is None

    def __eq__(self, other):
        return (isinstance(other, TollTown) and self.ground == other.ground and self.base == other.base
                and self.fees == other.fees)

    def __repr__(self):
        return f"TollTown({len(self.fees)} places, modulus {self.base})"


def toll_count(town, table, modulus):
    """Return how many lists of tolls make a toll town that keeps the town."""
    if town.width != table.width:
        raise Unlike()
    check_finite(table)
    if table.size > MOST_PLACES:
        raise TooWide(MOST_PLACES)
    check_modulus(modulus)
    if not table.covers(town.table):
        return 0
    # A list of tolls that keeps the town leads the streets to remainders and
    # each row to 0. What is left of the streets beside the rows is a finite
    # group, and such a group is led to the remainders in as many ways as it has
    # members.
    return index_modulo(rows_of(town, table), table.size * table.width, modulus)


def rows_of(town, table):
    """Return, for each rule from each place, its walk as a tuple with a number for each street."""
    order = {place: at for at, place in enumerate(table.places())}
    rows = []
    for one, other in town.rules():
        walk = walk_along(table, one, town.letters, None).minus(walk_along(table, other, town.letters, None))
        rows.extend([row_of(walk.moved(place), order) for place in order])
    return rows


def row_of(walk, order):
    """Return a walk as a tuple with a number for each street, by the order of the places."""
    width = walk.table.width
    row = [0] * (len(order) * width)
    for place, letter, number in walk.streets():
        row[order[place] * width + letter] = number
    return tuple(row)


def check_finite(table):
    """Raise Endless if the index of a table is not finite."""
    if table.size is None:
        raise Endless()


def check_modulus(modulus):
    """Raise InvalidNumber if a value is not a number from 1 on."""
    if not is_number(modulus) or modulus < 1:
        raise InvalidNumber(modulus)


def check_tolls(tolls, table, modulus):
    """Raise InvalidTolls with the index of the first place without its tolls, or of the first tuple too many."""
    for at, row in enumerate(tolls):
        if at == table.size or not is_toll_row(row, table.width, modulus):
            raise InvalidTolls(at)
    if len(tolls) < table.size:
        raise InvalidTolls(len(tolls))


def is_toll_row(row, width, modulus):
    """Return whether a value is a tuple with a toll for each letter."""
    return is_number_tuple(row, width) and all([0 <= toll < modulus for toll in row])
