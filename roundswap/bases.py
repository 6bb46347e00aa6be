"""Bases of towns: moved rules and their sums, by which the walk of every even difference is reduced to nothing.

Walks are dicts of numbers by streets. A street is a tuple (size, place, letter)
with the coordinates of its place; greater tuples are farther away. A member of
a basis is such a walk. Its head is its greatest street, and its lead is the
number of the head, which is positive. A head divides a street with the same
letter that lies behind it, seen from the place of zeros. To reduce a walk, the
greatest street that a head divides is made as small as the lead allows, by a
multiple of the moved member.

The members are completed as Groebner bases over the integers are. Then a walk
is a sum of moved rules exactly if it is reduced to nothing.
"""

from roundswap.equations import common_divisor
from roundswap.tables import distance, less
from roundswap.walks import steps_of


class Remainder:
    """A walk that is being reduced.

    `rest` is still to be looked at, and no head makes `fixed` smaller. The
    recipe has a tuple (count, place, member) for each multiple that was added;
    the member -1 - k is the rule k.
    """

    def __init__(self, walk, recipe):
        self.rest = {street: number for street, number in walk.items()}
        self.fixed = {}
        self.recipe = recipe

    def again(self):
        """Let everything be looked at again."""
        for street, number in self.fixed.items():
            self.rest[street] = number
        self.fixed = {}

    def whole(self):
        """Return what is left of the walk."""
        self.again()
        return self.rest


class Basis:
    """The members that were found so far, and what is still to be done."""

    def __init__(self, letters, grid, rules):
        self.alphabet = letters
        self.grid = grid
        self.members = []
        self.heads = []
        self.bits = []
        self.recipes = []
        self.active = {}
        self.waiting = []
        self.pairs = {}
        self.current = None
        self.spent = 0
        self.sources = [self.walk_between(one, other) for one, other in rules]
        for number, walk in enumerate(self.sources):
            self.wait(walk, [(1, self.origin(), -1 - number)])

    def copied(self):
        """Return a basis with the same members, to which others can be put."""
        copy = Basis(self.alphabet, self.grid, [])
        copy.members = list(self.members)
        copy.heads = list(self.heads)
        copy.bits = list(self.bits)
        copy.recipes = list(self.recipes)
        copy.active = dict(self.active)
        return copy

    def origin(self):
        """Return the coordinates of the place of zeros."""
        return (0,) * len(self.grid.moduli)

    def walk_between(self, one, other):
        """Return the walk of a word less that of another one."""
        walk = {}
        for word, sign in ((one, 1), (other, -1)):
            for place, letter, number in steps_of(word, self.alphabet, self.grid.zeros):
                street = street_at(self.grid.coordinates(place), letter)
                walk[street] = walk.get(street, 0) + sign * number
        return {street: number for street, number in walk.items() if number != 0}

    def moved_walk(self, walk, by):
        """Return a walk with all its places moved."""
        return {self.moved_street(street, by): number for street, number in walk.items()}

    def moved_street(self, street, by):
        """Return a street with its place moved."""
        return street_at(self.grid.shifted(street[1], by), street[2])

    def wait(self, walk, recipe):
        """Put a walk to those that are still to be reduced, if there is anything of it."""
        if walk:
            self.spent = self.spent + 1
            self.waiting.append((max(walk), self.spent, Remainder(walk, recipe)))

    def is_complete(self):
        """Return whether nothing is left to be done."""
        return self.current is None and not self.waiting and not self.pairs

    def work(self, effort):
        """Go on with completing the members, for about so many terms."""
        limit = self.spent + effort
        while self.spent < limit and not self.is_complete():
            if self.current is None:
                self.begin_next()
            elif self.current.rest:
                self.reduce_once(self.current)
            else:
                done = self.current
                self.current = None
                if done.fixed:
                    self.admit(done.fixed, done.recipe)

    def begin_next(self):
        """Take the smallest walk that waits, or else make one from the pair with the smallest street."""
        if not self.waiting:
            pair = min(list(self.pairs))
            del self.pairs[pair]
            self.spent = self.spent + 1 + len(self.pairs) // 16
            self.combine(pair)
        if self.waiting:
            entry = min(self.waiting)
            self.waiting.remove(entry)
            self.current = entry[2]

    def reduce_all(self, remainder, effort):
        """Reduce a walk by the members that are there, for about so many terms."""
        limit = self.spent + effort
        while remainder.rest and self.spent < limit:
            self.reduce_once(remainder)

    def reduce_head(self, remainder, effort):
        """Reduce a walk until its greatest street is left as it is, for about so many terms."""
        limit = self.spent + effort
        while remainder.rest and not remainder.fixed and self.spent < limit:
            self.reduce_once(remainder)

    def reduce_once(self, remainder):
        """Make the number of the greatest street smaller, or leave the street as it is."""
        street = max(remainder.rest)
        number = remainder.rest[street]
        member = self.reducer(street, number)
        self.spent = self.spent + 1 + len(self.active) // 8
        if member is None:
            remainder.fixed[street] = number
            del remainder.rest[street]
            return
        count = -nearest_quotient(number, self.lead(member))
        by = less(street[1], self.heads[member][1], 1)
        self.add_member(remainder.rest, count, by, member)
        remainder.recipe.append((count, by, member))

    def reducer(self, street, number):
        """Return the member with the least lead that makes the number of a street smaller, or None."""
        found = None
        for member in self.active:
            lead = self.lead(member)
            if (found is None or lead < self.lead(found)) and divides(self.heads[member], street):
                if nearest_quotient(number, lead) != 0:
                    found = member
        return found

    def lead(self, member):
        """Return the number of the head of a member."""
        return self.members[member][self.heads[member]]

    def add_member(self, walk, count, by, member):
        """Add a multiple of a moved member to a walk."""
        more = self.members[member]
        self.spent = self.spent + len(more) * (1 + effort_of_product(count.bit_length(), self.bits[member]))
        self.add_moved(walk, count, by, more)

    def add_moved(self, walk, count, by, more):
        """Add a multiple of a moved walk to a walk."""
        for street, number in more.items():
            there = self.moved_street(street, by)
            total = walk.get(there, 0) + count * number
            if total != 0:
                walk[there] = total
            else:
                walk.pop(there, None)

    def admit(self, walk, recipe):
        """Put a new member in, with all pairs that it makes."""
        head = max(walk)
        sign = 1 if walk[head] > 0 else -1
        member = len(self.members)
        self.members.append({street: sign * number for street, number in walk.items()})
        self.heads.append(head)
        self.bits.append(max([number.bit_length() for number in walk.values()]))
        self.recipes.append([(sign * count, by, part) for count, by, part in recipe])
        self.retire(member)
        for other in self.active:
            street = common_street(head, self.heads[other])
            if street is not None:
                self.pairs[(street, other, member)] = True
        self.active[member] = True
        for at, number in enumerate(head[1]):
            if number != 0:
                self.pairs[(self.turned(head, at), member, -1 - at)] = True

    def retire(self, member):
        """Let the members that a new one reduces wait, to be reduced."""
        for other in list(self.active):
            if self.lead(other) % self.lead(member) == 0 and divides(self.heads[member], self.heads[other]):
                del self.active[other]
                self.wait(self.members[other], [(1, self.origin(), other)])

    def turned(self, head, at):
        """Return the street that a head becomes farther out, where its coordinate would begin anew."""
        modulus = self.grid.moduli[at]
        return head[0] + (modulus - head[1][at] if modulus else 1), head[1], head[2]

    def combine(self, pair):
        """Let the walk of a pair wait, unless other pairs stand for it."""
        street, one, other = pair
        if one not in self.active:
            return
        if other < 0:
            by = self.turn_of(self.heads[one][1], -1 - other)
            self.wait_for_sum([(1, by, one)])
        elif other in self.active and not self.is_needless(pair):
            first, second = factors(self.lead(one), self.lead(other))
            self.wait_for_sum([(first, less(street[1], self.heads[one][1], 1), one),
                               (second, less(street[1], self.heads[other][1], 1), other)])

    def turn_of(self, place, at):
        """Return the coordinates that lead one coordinate back, or on to the end of its round."""
        modulus = self.grid.moduli[at]
        back = modulus - place[at] if modulus else (-1 if place[at] > 0 else 1)
        return tuple([back if column == at else 0 for column in range(len(place))])

    def wait_for_sum(self, recipe):
        """Let a sum of moved members wait."""
        walk = {}
        for count, by, member in recipe:
            self.add_member(walk, count, by, member)
        self.wait(walk, recipe)

    def is_needless(self, pair):
        """Return whether a third member stands between both members of a pair, with both pairs done."""
        street, one, other = pair
        leads = self.lead(one), self.lead(other)
        divisor = common_divisor(list(leads))
        # Where one lead divides the other, the pair only removes the head.
        bound = max(leads) if divisor in leads else divisor
        thirds = [member for member in self.active if member != one and member != other
                  and bound % self.lead(member) == 0 and divides(self.heads[member], street)]
        return any([self.is_done(one, member) and self.is_done(other, member) for member in thirds])

    def is_done(self, one, other):
        """Return whether the pair of two members waits no more."""
        street = common_street(self.heads[one], self.heads[other])
        return (street, min(one, other), max(one, other)) not in self.pairs

    def rules_of(self, recipe):
        """Return the counts by (rule, place) that a recipe adds up to."""
        totals = {}
        rules = {}
        for count, by, member in recipe:
            add_count(totals, member, by, count)
        while totals:
            member = max(list(totals))
            counts = totals.pop(member)
            for place, count in counts.items():
                if member < 0:
                    rules[(-1 - member, place)] = count
                elif count != 0:
                    for more, by, part in self.recipes[member]:
                        add_count(totals, part, self.grid.shifted(place, by), count * more)
        return {term: count for term, count in rules.items() if count != 0}


def street_at(place, letter):
    """Return the street of a letter that begins at a place."""
    return distance(place), place, letter


def divides(head, street):
    """Return whether a street has the letter of a head and lies behind it."""
    if head[2] != street[2] or head[0] > street[0]:
        return False
    return head[0] + distance(less(street[1], head[1], 1)) == street[0]


def common_street(one, other):
    """Return the first street that two heads divide, or None if there is none."""
    if one[2] != other[2] or any([first * second < 0 for first, second in zip(one[1], other[1])]):
        return None
    place = tuple([first if abs(first) > abs(second) else second for first, second in zip(one[1], other[1])])
    return street_at(place, one[2])


def nearest_quotient(number, lead):
    """Return how often a lead is taken from a number, so that the rest is at most half of it."""
    return (2 * number + lead) // (2 * lead)


def effort_of_product(one, other):
    """Return how many terms with small numbers could be added in the time of a product of numbers with so many bits."""
    return (one + other) // 1000 + one * other // 1000000


def factors(one, other):
    """Return two factors for leads: with them the leads cancel, or add up to their common divisor.

    They cancel if one of them divides the other one. Otherwise the member with
    the divisor stands between both, so that nothing is left to cancel.
    """
    divisor, first, second = divisor_with_factors(one, other)
    if divisor in (one, other):
        return other // divisor, -(one // divisor)
    return first, second


def divisor_with_factors(one, other):
    """Return the common divisor of two positive numbers, and factors with which they add up to it."""
    divisor, rest = one, other
    first, next_first = 1, 0
    second, next_second = 0, 1
    while rest != 0:
        times = divisor // rest
        divisor, rest = rest, divisor - times * rest
        first, next_first = next_first, first - times * next_first
        second, next_second = next_second, second - times * next_second
    return divisor, first, second


def add_count(totals, member, place, count):
    """Add a count for a place of a member."""
    counts = totals.setdefault(member, {})
    counts[place] = counts.get(place, 0) + count
