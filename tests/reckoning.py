"""The tests' own reckoning: determinants, places, walks and tolls, step by step."""

import itertools
import math

# A prime with 30 digits.
BIG = 10 ** 29 + 319


def determinant(rows):
    """Return the determinant of a square of numbers."""
    if not rows:
        return 1
    minors = [[row[:at] + row[at + 1:] for row in rows[1:]] for at in range(len(rows))]
    return sum((-1) ** at * rows[0][at] * determinant(minor) for at, minor in enumerate(minors))


def minors_of(rows, width):
    """Return, for each number of rows up to the width, the divisor of all minors.

    Where the sums of one list are sums of another one, both lists have the
    same sums exactly if these divisors are equal.
    """
    found = []
    for size in range(1, width + 1):
        squares = itertools.product(itertools.combinations(rows, size), itertools.combinations(range(width), size))
        found.append(math.gcd(*[determinant([[row[at] for at in ats] for row in some]) for some, ats in squares]))
    return found


def lead_of(row):
    """Return the column of the first number that is not 0."""
    return min(at for at, number in enumerate(row) if number != 0)


def random_rows(source, width, many, most):
    return [tuple(source.randint(-most, most) for at in range(width)) for row in range(many)]


def random_word(source, letters, least, most):
    signs = letters + letters.upper()
    return "".join(source.choice(signs) for at in range(source.randint(least, most)))


def name_of(rows, counts):
    """Return the name of a place, by taking single normal rows away and adding them."""
    found = list(counts)
    for row in rows:
        lead = lead_of(row)
        while found[lead] < 0:
            found = [number + more for number, more in zip(found, row)]
        while found[lead] >= row[lead]:
            found = [number - more for number, more in zip(found, row)]
    return tuple(found)


def steps(rows, word, letters, start):
    """Yield for each step of a word the street, whether it goes forward, and the place behind."""
    here = name_of(rows, start)
    for sign in word:
        letter = letters.index(sign.lower())
        there = list(here)
        there[letter] += 1 if sign.islower() else -1
        there = name_of(rows, there)
        yield (here if sign.islower() else there, letter), sign.islower(), there
        here = there


def walk_by_steps(rows, word, letters, start):
    """Return the numbers by streets of a word, without zeros."""
    numbers = {}
    for street, forward, there in steps(rows, word, letters, start):
        numbers[street] = numbers.get(street, 0) + (1 if forward else -1)
    return {street: number for street, number in numbers.items() if number != 0}


def streets_by_steps(rows, word, letters, start):
    """Return what Walk.streets must return for the walk of a word."""
    numbers = walk_by_steps(rows, word, letters, start)
    return sorted((place, letter, number) for (place, letter), number in numbers.items())


def end_by_steps(rows, modulus, tolls, word, letters, start):
    """Return the place and the toll behind a word; tolls are tuples by places."""
    here, paid = name_of(rows, start), 0
    for (place, letter), forward, there in steps(rows, word, letters, start):
        paid += tolls[place][letter] if forward else -tolls[place][letter]
        here = there
    return here, paid % modulus


def sum_by_steps(rows, rules, letters, parts):
    """Return the numbers by streets of a sum, each rule walked from its place as often as it counts."""
    numbers = {}
    for start, number, count in parts:
        for side, sign in zip(rules[number], (1, -1)):
            for street, forward, there in steps(rows, side, letters, start):
                numbers[street] = numbers.get(street, 0) + sign * count * (1 if forward else -1)
    return {street: number for street, number in numbers.items() if number != 0}


def path_to(counts, letters):
    """Return a word with these counts."""
    return "".join((letter if number > 0 else letter.upper()) * abs(number) for letter, number in zip(letters, counts))


def raised(call):
    """Return the name and the fields of the error that a call raises, or None if it raises none."""
    try:
        call()
    except (ValueError, LookupError) as error:
        fields = {name: value for name, value in vars(error).items() if name != "tag"}
        return (error.tag, *fields.values())
    return None


def mirrored(word):
    """Return the opposite of a word."""
    return "".join(sign.swapcase() for sign in reversed(word))


def random_rule(source, letters, most):
    return random_word(source, letters, 0, most), random_word(source, letters, 0, most)


def random_level_rule(source, letters, most):
    """Return a rule whose sides have the same counts."""
    word = random_word(source, letters, 0, most)
    return word, "".join(source.sample(word, len(word)))


def ends_on_way(town, word):
    """Return the places at which the steps of a word begin and end."""
    rows = town.table.rows()
    start = (0,) * len(town.letters)
    return [name_of(rows, start)] + [there for street, forward, there in steps(rows, word, town.letters, start)]


def random_step(source, town, word):
    """Return a possible step of a drawn kind, and the word behind it, or None if there is none of the kind."""
    kind = source.choice(["put", "drop", "rule", "swap"])
    if kind == "put":
        at, sign = source.randint(0, len(word)), source.choice(town.letters + town.letters.upper())
        return ("put", at, sign), word[:at] + sign + sign.swapcase() + word[at:]
    if kind == "drop":
        choices = [at for at in range(len(word) - 1) if word[at] == word[at + 1].swapcase()]
        if choices:
            at = source.choice(choices)
            return ("drop", at), word[:at] + word[at + 2:]
    if kind == "rule":
        sides = [(number, forward, rule if forward else rule[::-1])
                 for number, rule in enumerate(town.rules()) for forward in (True, False)]
        choices = [(number, forward, at, old, new) for number, forward, (old, new) in sides
                   for at in range(len(word) + 1) if word[at:].startswith(old)]
        if choices:
            number, forward, at, old, new = source.choice(choices)
            return ("rule", number, forward, at), word[:at] + new + word[at + len(old):]
    if kind == "swap":
        places = ends_on_way(town, word)
        at = source.randint(0, len(word))
        ends = [end for end in range(at, len(word) + 1) if places[end] == places[at]]
        middle, end = sorted([source.choice(ends), source.choice(ends)])
        return ("swap", at, middle - at, end - middle), word[:at] + word[middle:end] + word[at:middle] + word[end:]
    return None


def steps_away(source, town, word, many, longest):
    """Return the word behind so many drawn steps, as long as it is short enough, and the steps."""
    taken = []
    for turn in range(many):
        found = random_step(source, town, word)
        if found is not None and len(found[1]) <= longest:
            taken.append(found[0])
            word = found[1]
    return word, taken


def is_sum_by_steps(town, one, other, rows):
    """Return whether rows are a sum for two words, step by step."""
    numbers = range(len(town.rules()))
    formed = all(len(place) == len(town.letters) and number in numbers and count != 0 for place, number, count in rows)
    normal = town.table.rows()
    start = (0,) * len(town.letters)
    left = walk_by_steps(normal, one, town.letters, start)
    for street, number in walk_by_steps(normal, other, town.letters, start).items():
        left[street] = left.get(street, 0) - number
    total = sum_by_steps(normal, town.rules(), town.letters, rows)
    same_end = ends_on_way(town, one)[-1] == ends_on_way(town, other)[-1]
    return formed and same_end and {street: number for street, number in left.items() if number != 0} == total


def normal_tables(width, index):
    """Return the normal rows of all tables of a width with an index, ascending."""
    if width == 1:
        return [[(index,)]]
    found = []
    for lead in [lead for lead in range(1, index + 1) if index % lead == 0]:
        for below in normal_tables(width - 1, index // lead):
            rows = [(0, *row) for row in below]
            sides = [range(row[at + 1]) for at, row in enumerate(rows)]
            found += [[(lead, *tail), *rows] for tail in itertools.product(*sides)]
    return sorted(found)


def places_of(rows):
    """Return all places of a finite table, ascending."""
    return list(itertools.product(*[range(row[at]) for at, row in enumerate(rows)]))


def is_kept_by_steps(town, rows, modulus, tolls):
    """Return whether both sides of each rule lead to one place at one toll, from each place."""
    return all(end_by_steps(rows, modulus, tolls, one, town.letters, place)
               == end_by_steps(rows, modulus, tolls, other, town.letters, place)
               for one, other in town.rules() for place in places_of(rows))


def is_parted_by_steps(letters, rows, modulus, tolls, one, other):
    """Return whether two words lead from the place of zeros to different places or at different tolls."""
    start = (0,) * len(letters)
    return (end_by_steps(rows, modulus, tolls, one, letters, start)
            != end_by_steps(rows, modulus, tolls, other, letters, start))


def all_toll_lists(rows, modulus):
    """Yield every list of tolls of a table, as a dict by places."""
    places = places_of(rows)
    choices = list(itertools.product(range(modulus), repeat=len(rows)))
    for tolls in itertools.product(choices, repeat=len(places)):
        yield dict(zip(places, tolls))


def least_by_search(town, one, other, most):
    """Return the index, the modulus and the rows of the least toll towns, up to a sum of index and modulus, or None."""
    for total in range(2, most + 1):
        for index in range(1, total):
            for rows in normal_tables(len(town.letters), index):
                for tolls in all_toll_lists(rows, total - index):
                    if (is_parted_by_steps(town.letters, rows, total - index, tolls, one, other)
                            and is_kept_by_steps(town, rows, total - index, tolls)):
                        return index, total - index, rows
    return None
