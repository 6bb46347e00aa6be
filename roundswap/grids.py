"""Coordinates of places: for each place of a table a tuple of free numbers and of remainders."""

from roundswap.tables import distance, lead_at, less, normal_rows, swept


class Grid:
    """Coordinates in which the sums of a table are the multiples of single coordinates.

    A coordinate is a remainder of its modulus, or any number if its modulus is
    0. Places are added coordinate by coordinate.
    """

    def __init__(self, table):
        width = table.width
        weights = diagonal_weights(table.rows(), width)
        moduli = moduli_of(table.rows(), weights)
        shorten_free(weights, moduli)
        kept = [at for at, modulus in enumerate(moduli) if modulus != 1]
        sources = inverse_columns(weights)
        self.moduli = [moduli[at] for at in kept]
        self.weights = [weights[at] for at in kept]
        self.sources = [sources[at] for at in kept]
        self.zeros = (0,) * width

    def coordinates(self, counts):
        """Return the coordinates of the place of a tuple of numbers."""
        return tuple([remainder(weighed(counts, weights), modulus)
                      for weights, modulus in zip(self.weights, self.moduli)])

    def counts_at(self, place):
        """Return a tuple of numbers at a place."""
        found = self.zeros
        for number, source in zip(place, self.sources):
            found = less(found, source, -number)
        return found

    def shifted(self, place, by):
        """Return the coordinates of a place moved by others."""
        return tuple([(number + more) % modulus if modulus else number + more
                      for number, more, modulus in zip(place, by, self.moduli)])


def weighed(counts, weights):
    """Return the sum of the numbers, each multiplied by its weight."""
    return sum([number * weight for number, weight in zip(counts, weights)])


def remainder(number, modulus):
    """Return the remainder of a number, or the number itself if the modulus is 0."""
    return number % modulus if modulus else number


def unit(at, width):
    """Return the tuple with 1 in one column and 0 in the others."""
    return (0,) * at + (1,) + (0,) * (width - at - 1)


def diagonal_weights(rows, width):
    """Return weights of coordinates, in which each normal row has one number that is not 0.

    Each round makes the rows normal and then sweeps the columns in the same
    way, until the leading numbers divide all that is beside them.
    """
    weights = [unit(at, width) for at in range(width)]
    seen = in_weights(rows, weights)
    while any([len(row) - row.count(0) > 1 for row in seen]):
        weights = swept_weights(seen, weights)
        seen = in_weights(rows, weights)
    return weights


def in_weights(rows, weights):
    """Return the normal rows of rows that are told in other coordinates."""
    return normal_rows([tuple([weighed(row, some) for some in weights]) for row in rows], len(weights))


def swept_weights(rows, weights):
    """Return other weights, for which the columns of the rows lead one behind the other."""
    columns = [tuple([row[at] for row in rows]) + some for at, some in enumerate(weights)]
    leads = []
    for at in range(len(rows)):
        lead, columns = swept(columns, at)
        if lead is not None:
            leads.append(lead)
    return [column[len(rows):] for column in leads + columns]


def moduli_of(rows, weights):
    """Return the modulus of each coordinate, 0 for the free ones."""
    moduli = [0] * len(weights)
    for row in in_weights(rows, weights):
        at = lead_at(row)
        moduli[at] = row[at]
    return moduli


def shorten_free(weights, moduli):
    """Replace the weights of free coordinates by sums of them as long as these are shorter.

    Short weights keep the coordinates of the letters small.
    """
    free = [at for at, modulus in enumerate(moduli) if modulus == 0]
    tries = [(at, other, sign) for at in free for other in free if at != other for sign in (1, -1)]
    shortened = True
    while shortened:
        shortened = False
        for at, other, sign in tries:
            shorter = less(weights[at], weights[other], sign)
            if distance(shorter) < distance(weights[at]):
                weights[at] = shorter
                shortened = True


def inverse_columns(weights):
    """Return for each coordinate a tuple of numbers that has 1 there and 0 in the others."""
    width = len(weights)
    rows = normal_rows([some + unit(at, width) for at, some in enumerate(weights)], width)
    return [tuple([row[width + at] for row in rows]) for at in range(width)]
