"""The tests' own reckoning: determinants, places, walks and tolls, step by step."""

import itertools
import math

# A prime with 30 digits.
BIG = 10 ** 29 + 319


def determinant(rows):
    """Return the determinant of a square of numbers."""
    if not rows:
        return 1
    minors = [[row[:at] + row[at + 1:] for row in rows[1:]] for at in range(len(rows))]
    return sum((-1) ** at * rows[0][at] * determinant(minor) for at, minor in enumerate(minors))


def minors_of(rows, width):
    """Return, for each number of rows up to the width, the divisor of all minors.

    Where the sums of one list are sums of another one, both lists have the
    same sums exactly if these divisors are equal.
    """
    found = []
    for size in range(1, width + 1):
        squares = itertools.product(itertools.combinations(rows, size), itertools.combinations(range(width), size))
        found.append(math.gcd(*[determinant([[row[at] for at in ats] for row in some]) for some, ats in squares]))
    return found


def lead_of(row):
    """Return the column of the first number that is not 0."""
    return min(at for at, number in enumerate(row) if number != 0)


def random_rows(source, width, many, most):
    return [tuple(source.randint(-most, most) for at in range(width)) for row in range(many)]


def random_word(source, letters, least, most):
    signs = letters + letters.upper()
    return "".join(source.choice(signs) for at in range(source.randint(least, most)))


def name_of(rows, counts):
    """Return the name of a place, by taking single normal rows away and adding them."""
    found = list(counts)
    for row in rows:
        lead = lead_of(row)
        while found[lead] < 0:
            found = [number + more for number, more in zip(found, row)]
        while found[lead] >= row[lead]:
            found = [number - more for number, more in zip(found, row)]
    return tuple(found)


def steps(rows, word, letters, start):
    """Yield for each step of a word the street, whether it goes forward, and the place behind."""
    here = name_of(rows, start)
    for sign in word:
        letter = letters.index(sign.lower())
        there = list(here)
        there[letter] += 1 if sign.islower() else -1
        there = name_of(rows, there)
        yield (here if sign.islower() else there, letter), sign.islower(), there
        here = there


def walk_by_steps(rows, word, letters, start):
    """Return the numbers by streets of a word, without zeros."""
    numbers = {}
    for street, forward, there in steps(rows, word, letters, start):
        numbers[street] = numbers.get(street, 0) + (1 if forward else -1)
    return {street: number for street, number in numbers.items() if number != 0}


def streets_by_steps(rows, word, letters, start):
    """Return what Walk.streets must return for the walk of a word."""
    numbers = walk_by_steps(rows, word, letters, start)
    return sorted((place, letter, number) for (place, letter), number in numbers.items())


def end_by_steps(rows, modulus, tolls, word, letters, start):
    """Return the place and the toll behind a word; tolls are tuples by places."""
    here, paid = name_of(rows, start), 0
    for (place, letter), forward, there in steps(rows, word, letters, start):
        paid += tolls[place][letter] if forward else -tolls[place][letter]
        here = there
    return here, paid % modulus


def sum_by_steps(rows, rules, letters, parts):
    """Return the numbers by streets of a sum, each rule walked from its place as often as it counts."""
    numbers = {}
    for start, number, count in parts:
        for side, sign in zip(rules[number], (1, -1)):
            for street, forward, there in steps(rows, side, letters, start):
                numbers[street] = numbers.get(street, 0) + sign * count * (1 if forward else -1)
    return {street: number for street, number in numbers.items() if number != 0}


def path_to(counts, letters):
    """Return a word with these counts."""
    return "".join((letter if number > 0 else letter.upper()) * abs(number) for letter, number in zip(letters, counts))


def raised(call):
    """Return the name and the fields of the error that a call raises, or None if it raises none."""
    try:
        call()
    except (ValueError, LookupError) as error:
        fields = {name: value for name, value in vars(error).items() if name != "tag"}
        return (error.tag, *fields.values())
    return None
