"""Sums for two words: moved rules that add up to the difference of their walks."""

from roundswap.checks import is_number, is_number_from, is_number_tuple
from roundswap.equations import ONE, solution
from roundswap.errors import InvalidNumber
from roundswap.tables import distance
from roundswap.walks import Walk
from roundswap.words import check_words

FARTHEST = 4


def is_sum(town, one, other, rows):
    """Return whether a list is a sum for two words."""
    check_words([one, other], town.letters)
    if not all([is_row(town, row) for row in rows]):
        return False
    # The walk of a rule has no ends, so words with such a difference end at one place.
    return walk_between(town, one, other) == total_of(town, rows)


def is_row(town, row):
    """Return whether a tuple has a place, the number of a rule, and a count that is not 0."""
    place, number, count = row
    is_moved_rule = is_number_tuple(place, town.width) and is_number_from(number, 0, len(town) - 1)
    return is_moved_rule and is_number(count) and count != 0


def walk_between(town, one, other):
    """Return the walk of a word less that of another one."""
    return town.walk_of(one).minus(town.walk_of(other))


def total_of(town, rows):
    """Return the sum of the walks of the moved rules."""
    streets = []
    for place, number, count in rows:
        walk = town.moved_rule(number, place).times(count)
        streets.extend(walk.streets())
    return Walk(town.table, streets)


def size_of_sum(rows):
    """Return the size of a sum."""
    return sum([abs(count) * (1 + distance(place)) for place, number, count in rows])


def sum_within(town, one, other, reach):
    """Return a sum whose places are within a reach, or None if there is none."""
    check_words([one, other], town.letters)
    if not is_number_from(reach, 0, FARTHEST):
        raise InvalidNumber(reach)
    if town.place_of(one) != town.place_of(other):
        return None
    goal = walk_between(town, one, other)
    # The nearest places first, because most sums need no others.
    for near in range(reach + 1):
        rows = sum_at(town, goal, near)
        if rows is not None:
            return rows
    return None


def sum_at(town, goal, reach):
    """Return a sum with a walk, whose places are within a reach, or None if there is none."""
    nearby = places_within(town.table, reach)
    terms = [(place, number) for number in range(len(town)) for place in nearby]
    walks = [town.moved_rule(number, place) for place, number in terms]
    values = solution(equations_of(goal, walks), len(terms))
    if values is None:
        return None
    rows = [(place, number, values.get(at, 0)) for at, (place, number) in enumerate(terms)]
    return [row for row in rows if row[2] != 0]


def places_within(table, reach):
    """Return a nearest tuple for each place that has a tuple within a reach."""
    nearest = {}
    for counts in sorted(tuples_within(table.width, reach), key=distance):
        nearest.setdefault(table.place(counts), counts)
    return list(nearest.values())


def tuples_within(width, reach):
    """Return all tuples of numbers whose absolute numbers add up to at most a reach."""
    if width == 0:
        return [()]
    return [(head, *tail) for head in range(-reach, reach + 1)
            for tail in tuples_within(width - 1, reach - abs(head))]


def equations_of(goal, walks):
    """Return an equation for each street: so many times each walk, added up, are the goal."""
    equations = {}
    for at, walk in enumerate(walks):
        for place, letter, number in walk.streets():
            equation = equations.setdefault((place, letter), {})
            equation[at] = number
    for place, letter, number in goal.streets():
        equation = equations.setdefault((place, letter), {})
        equation[ONE] = -number
    return list(equations.values())
