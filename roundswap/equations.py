"""Equations between whole numbers.

An equation is a dict of numbers by unknowns, which are numbers from 0 on: so
many times each unknown, added up, are 0. The key ONE stands for the number 1.
"""

ONE = -1


def solution(equations, many):
    """Return numbers by unknowns that solve equations with so many unknowns, or None.

    An unknown that is missing in the answer is 0. Each round expresses one
    unknown by others and removes it from all equations. Where no unknown has
    the number 1 or -1, a fresh unknown takes the place of an old one, so that
    the numbers of an equation become smaller.
    """
    rest = not_empty([measured(equation) for equation in equations])
    steps = []
    fresh = many
    while rest:
        least, length, equation = min(rest, key=lambda entry: entry[:2])
        if least == 0:
            return None
        unknown = first_with(equation, least)
        if least > 1:
            equation = exchange(equation, unknown, fresh)
            fresh = fresh + 1
        steps.append((unknown, equation))
        rest = not_empty([without_unknown(entry, unknown, equation) for entry in rest])
    return values_of(steps)


def measured(equation):
    """Return the least absolute number of an unknown, the number of terms, and the equation in lowest terms.

    The least number is 0 if there is no unknown.
    """
    terms = lowest(equation)
    sizes = [abs(number) for unknown, number in terms.items() if unknown != ONE]
    return min(sizes, default=0), len(terms), terms


def lowest(equation):
    """Return an equation divided by the common divisor of its unknowns.

    One that no whole numbers solve becomes one without unknowns.
    """
    divisor = common_divisor([number for unknown, number in equation.items() if unknown != ONE])
    if divisor < 2:
        return equation
    if equation.get(ONE, 0) % divisor != 0:
        return {ONE: 1}
    return {unknown: number // divisor for unknown, number in equation.items()}


def common_divisor(numbers):
    """Return the greatest number that divides all numbers, or 0 if they all are 0."""
    divisor = 0
    for number in numbers:
        rest = number
        while rest != 0:
            divisor, rest = rest, divisor % rest
        if abs(divisor) == 1:
            return 1
    return abs(divisor)


def not_empty(entries):
    """Return the measured equations that have a term."""
    return [entry for entry in entries if entry[1] > 0]


def first_with(equation, size):
    """Return the first unknown whose number has this absolute value."""
    return min([unknown for unknown, number in equation.items() if unknown != ONE and abs(number) == size])


def exchange(equation, unknown, fresh):
    """Return an equation that expresses an unknown by a fresh one and by the other ones.

    With it, the other numbers of the given equation become remainders of the
    number of the unknown, and this number becomes that of the fresh one.
    """
    lead = equation[unknown]
    quotients = {other: (2 * number + lead) // (2 * lead) for other, number in equation.items()}
    quotients[fresh] = -1
    return {other: number for other, number in quotients.items() if number != 0}


def without_unknown(entry, unknown, equation):
    """Return a measured equation without an unknown, whose number in the given equation is 1 or -1."""
    terms = entry[2]
    if unknown not in terms:
        return entry
    return measured(less_terms(terms, equation, terms[unknown] * equation[unknown]))


def less_terms(equation, other, times):
    """Return an equation less a multiple of another one."""
    terms = dict(equation)
    for unknown, number in other.items():
        terms[unknown] = terms.get(unknown, 0) - times * number
    return {unknown: number for unknown, number in terms.items() if number != 0}


def values_of(steps):
    """Return numbers by unknowns, from the last expressed unknown to the first one."""
    values = {ONE: 1}
    for unknown, equation in reversed(steps):
        rest = sum([number * values.get(other, 0) for other, number in equation.items() if other != unknown])
        values[unknown] = -rest * equation[unknown]
    return values
