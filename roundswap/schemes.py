"""Schemes: what streets are worth if all walks of rules are worth nothing.

Streets are numbers from 0 on. Each step replaces one of them by others, or by a
fresh one beside others, until every street that is left is worth nothing as
often as its order tells, or, without an order, never.
"""

from roundswap.equations import common_divisor


class Scheme:
    """The steps for some walks, which are dicts of numbers by streets."""

    def __init__(self, walks, many):
        self.steps = []
        self.orders = {}
        rest = sized(walks)
        fresh = many
        while rest:
            least, length, walk = min(rest, key=lambda entry: entry[:2])
            street = first_with(walk, least)
            if least == 1:
                rest = self.resolve(street, without_street(walk, street), rest)
            elif length > 1:
                rest = self.resolve(street, with_fresh(walk, street, fresh), rest)
                fresh = fresh + 1
            else:
                rest = self.limit_street(street, least, rest)

    def resolve(self, street, others, rest):
        """Note that a street is worth as much as others, and return the walks without it."""
        self.steps.append((street, others))
        return sized([replaced(walk, street, others) if street in walk else walk for least, length, walk in rest])

    def limit_street(self, street, order, rest):
        """Return the walks with remainders for a street, which is worth nothing as often as its order tells."""
        smaller = sized([with_remainder(walk, street, order) for least, length, walk in rest])
        if any([street in walk for least, length, walk in smaller]):
            return sized([{street: order}]) + smaller
        self.orders[street] = order
        return smaller

    def worth(self, walk):
        """Return a walk in the streets that are left, without those that are worth nothing."""
        found = dict(walk)
        for street, others in self.steps:
            if street in found:
                found = replaced(found, street, others)
        for street, order in self.orders.items():
            found = with_remainder(found, street, order)
        return found

    def least_for(self, walk, bound):
        """Return the least modulus up to a bound by which a walk is worth something, and a street for it, or None."""
        best = None
        for street, number in self.worth(walk).items():
            modulus = separating(number, self.orders.get(street, 0), bound)
            if modulus is not None:
                best = (modulus, street)
                bound = modulus - 1
        return best

    def values_for(self, modulus, street, many):
        """Return what each street is worth if one that is left is worth 1, and the others that are left nothing."""
        values = {street: 1}
        for name, others in reversed(self.steps):
            values[name] = sum([number * values.get(other, 0) for other, number in others.items()]) % modulus
        return [values.get(at, 0) % modulus for at in range(many)]


def sized(walks):
    """Return the least absolute number, the length, and the walk, for each walk that is not empty."""
    return [(min([abs(number) for number in walk.values()]), len(walk), walk) for walk in walks if walk]


def first_with(walk, size):
    """Return the first street whose number has this absolute value."""
    return min([street for street, number in walk.items() if abs(number) == size])


def without_street(walk, street):
    """Return what a street with the number 1 or -1 is worth, if the walk is worth nothing."""
    sign = walk[street]
    return {other: -sign * number for other, number in walk.items() if other != street}


def with_fresh(walk, street, fresh):
    """Return a fresh street and others for a street, with which the other numbers of the walk become remainders."""
    lead = walk[street]
    quotients = {other: -((2 * number + lead) // (2 * lead)) for other, number in walk.items() if other != street}
    quotients[fresh] = 1
    return {other: number for other, number in quotients.items() if number != 0}


def replaced(walk, street, others):
    """Return a walk with others in place of a street."""
    found = {other: number for other, number in walk.items() if other != street}
    times = walk[street]
    for other, number in others.items():
        total = found.get(other, 0) + times * number
        if total != 0:
            found[other] = total
        else:
            found.pop(other, None)
    return found


def with_remainder(walk, street, order):
    """Return a walk with a remainder for the number of a street."""
    if street not in walk:
        return walk
    rest = walk[street] - (2 * walk[street] + order) // (2 * order) * order
    found = {other: number for other, number in walk.items() if other != street}
    if rest != 0:
        found[street] = rest
    return found


def separating(number, order, bound):
    """Return the least number up to a bound that divides the order and not the number, or None.

    The order 0 is divided by every number. Such a least number is the power of
    a prime, because what divides by the powers divides by their product.
    """
    if order == 0:
        modulus = 2
        while number % modulus == 0:
            modulus = modulus + 1
        return modulus if modulus <= bound else None
    shared = common_divisor([number, order])
    rest = order // shared
    best = None
    prime = 2
    while rest > 1 and prime <= bound:
        if prime * prime > rest:
            prime = rest
        if rest % prime == 0:
            power = power_beside(prime, shared)
            if power <= bound:
                best = power
                bound = power - 1
        while rest % prime == 0:
            rest = rest // prime
        prime = prime + 1
    return best


def power_beside(prime, number):
    """Return the least power of a prime that does not divide a number."""
    power = prime
    while number % power == 0:
        power = power * prime
    return power
