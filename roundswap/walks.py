"""Walks: numbers for the streets between the places of a table."""

from roundswap.checks import is_number_from, is_number_tuple
from roundswap.errors import InvalidCounts, InvalidNumber, InvalidStreet, Unlike
from roundswap.tables import added
from roundswap.words import check_words


class Walk:
    """A number for each street of a table; finitely many are not 0."""

    def __init__(self, table, streets=()):
        for at, (place, letter, number) in enumerate(streets):
            if not is_number_tuple(place, table.width) or not is_letter(letter, table):
                raise InvalidStreet(at)
        self.ground = table
        self.numbers = numbers_of(table, streets)

    @classmethod
    def of(cls, table, word, letters, *, start=None):
        """Return the walk of a word from a place."""
        return cls(table, checked_steps(table, word, letters, start))

    @property
    def table(self):
        """The table whose places the streets join."""
        return self.ground

    def streets(self):
        """Return the ascending list of (place, letter, number) of all streets whose number is not 0."""
        return sorted([(place, letter, number) for (place, letter), number in self.numbers.items()])

    def at_street(self, place, letter):
        """Return the number of a street."""
        street = street_of(self.ground, place, letter)
        return self.numbers.get(street, 0)

    def ends(self):
        """Return for each place what ends there less what begins there, if it is not 0."""
        totals = {}
        for (place, letter), number in self.numbers.items():
            end = self.ground.place(stepped(place, letter, 1))
            totals[end] = totals.get(end, 0) + number
            totals[place] = totals.get(place, 0) - number
        return sorted([(place, number) for place, number in totals.items() if number != 0])

    def moved(self, counts):
        """Return the walk with the counts added to all its places."""
        by = self.ground.place(counts)
        return Walk(self.ground, [(added(place, by), letter, number) for place, letter, number in self.streets()])

    def times(self, count):
        """Return the walk with all numbers multiplied."""
        return Walk(self.ground, [(place, letter, count * number) for place, letter, number in self.streets()])

    def plus(self, other):
        """Return the sum of two walks."""
        if self.ground != other.ground:
            raise Unlike()
        return Walk(self.ground, self.streets() + other.streets())

    def minus(self, other):
        """Return the difference of two walks."""
        return self.plus(other.times(-1))

    def __len__(self):
        return len(self.numbers)

    def __eq__(self, other):
        return isinstance(other, Walk) and self.ground == other.ground and self.numbers == other.numbers

    def __repr__(self):
        return f"Walk({len(self.numbers)} streets)"


def walk_along(table, word, letters, start):
    """Return the walk of a word from a place, or from the place of zeros if the start is None."""
    return Walk(table, checked_steps(table, word, letters, start))


def checked_steps(table, word, letters, start):
    """Return (place, letter, number) for each step of a word that is one for the letters of the table."""
    check_width(letters, table)
    check_words([word], letters)
    begin = begin_of(table, start)
    return steps_of(word, letters, begin)


def check_width(letters, table):
    """Raise Unlike if there is not one letter for each column of the table."""
    if len(letters) != table.width:
        raise Unlike()


def is_letter(letter, table):
    """Return whether a value is the number of a letter of words in the table."""
    return is_number_from(letter, 0, table.width - 1)


def numbers_of(table, streets):
    """Return the numbers by (place, letter), without those that add up to 0."""
    totals = {}
    for place, letter, number in streets:
        street = (table.place(place), letter)
        totals[street] = totals.get(street, 0) + number
    return {street: number for street, number in totals.items() if number != 0}


def street_of(table, place, letter):
    """Return the pair that names a street."""
    begin = table.place(place)
    if not is_letter(letter, table):
        raise InvalidNumber(letter)
    return begin, letter


def begin_of(table, start):
    """Return the tuple at which a word begins: the start, or zeros without one."""
    if start is None:
        return (0,) * table.width
    if not is_number_tuple(start, table.width):
        raise InvalidCounts()
    return start


def steps_of(word, letters, begin):
    """Return (place, letter, number) for each step of a word; any tuple may stand for a place."""
    steps = []
    here = begin
    for sign in word:
        letter = letters.index(sign.lower())
        if sign.islower():
            steps.append((here, letter, 1))
            here = stepped(here, letter, 1)
        else:
            here = stepped(here, letter, -1)
            steps.append((here, letter, -1))
    return steps


def stepped(place, letter, by):
    """Return a place with so much more at a letter."""
    return place[:letter] + (place[letter] + by,) + place[letter + 1:]
