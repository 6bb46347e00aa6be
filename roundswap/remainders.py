"""Rows of numbers, of which only the remainders modulo a number matter."""


def index_modulo(rows, width, modulus):
    """Return the index of the sums of rows, where all multiples of the modulus count as rows, too.

    A row is a tuple of width numbers. The index is the product of the leading
    numbers, column by column.
    """
    index = 1
    rest = [remainders(row, modulus) for row in rows]
    for column in range(width):
        lead, rest = led(rest, width - column, modulus)
        index = index * lead
    return index


def led(rows, width, modulus):
    """Return the least number in the first column of all sums, and rows for the other columns.

    The multiples of the modulus in this column are among the sums.
    """
    lead = (modulus,) + (0,) * (width - 1)
    clear = []
    for row in rows:
        lead, cleared = divided(lead, row, modulus)
        if any(cleared):
            clear.append(cleared[1:])
    return lead[0], clear


def divided(lead, row, modulus):
    """Return two rows with the same sums as these two, the second one with 0 in the first column."""
    divisor = lead
    rest = less_modulo(row, lead, row[0] // lead[0], modulus)
    while rest[0] != 0:
        divisor, rest = rest, less_modulo(divisor, rest, divisor[0] // rest[0], modulus)
    return divisor, rest


def less_modulo(row, other, times, modulus):
    """Return the remainders of a row less a multiple of another one."""
    if times == 0:
        return row
    return tuple([(number - times * taken) % modulus for number, taken in zip(row, other)])


def remainders(row, modulus):
    """Return the remainders of the numbers of a row."""
    return tuple([number % modulus for number in row])
