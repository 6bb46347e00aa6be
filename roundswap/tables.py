"""Tables of places: normal rows, places, and tables that cover others."""

from roundswap.checks import is_number_from, is_number_tuple
from roundswap.errors import Endless, InvalidCounts, InvalidNumber, InvalidTable, Unlike

WIDEST = 3
GREATEST = 24


class Table:
    """The sums of multiples of rows of numbers."""

    def __init__(self, width, rows=()):
        if not is_number_from(width, 1, WIDEST):
            raise InvalidNumber(width)
        for at, row in enumerate(rows):
            if not is_number_tuple(row, width):
                raise InvalidTable(at)
        self.wide = width
        self.normal = normal_rows(rows, width)
        self.many = index_of(self.normal, width)

    @property
    def width(self):
        """The number of columns."""
        return self.wide

    @property
    def size(self):
        """The index, or None if it is not finite."""
        return self.many

    def rows(self):
        """Return the list of the normal rows."""
        return list(self.normal)

    def place(self, counts):
        """Return the tuple that names the place of a tuple."""
        if not is_number_tuple(counts, self.wide):
            raise InvalidCounts()
        return reduced(counts, self.normal)

    def __contains__(self, x):
        """Return whether a tuple is a sum."""
        return self.place(x) == (0,) * self.wide

    def places(self):
        """Yield all places in ascending order."""
        if self.many is None:
            raise Endless()
        sides = diagonal_of(self.normal)
        yield from tuples_below(sides)

    def covers(self, other):
        """Return whether all sums of another table are sums of this one."""
        if self.wide != other.wide:
            raise Unlike()
        return are_sums(other.normal, self.normal)

    def joined(self, other):
        """Return the table made from the rows of both."""
        if self.wide != other.wide:
            raise Unlike()
        return Table(self.wide, self.normal + other.normal)

    def __eq__(self, other):
        return isinstance(other, Table) and self.wide == other.wide and self.normal == other.normal

    def __repr__(self):
        if self.many is None:
            return f"Table({self.wide} wide, endless)"
        return f"Table({self.wide} wide, {self.many} places)"


def tables_of(table, index):
    """Yield all tables with this index that cover the table, by ascending rows."""
    if not is_number_from(index, 1, GREATEST):
        raise InvalidNumber(index)
    width = table.width
    needed = table.rows()
    for rows in covering_rows(needed, width, index):
        yield Table(width, rows)


def normal_rows(rows, width):
    """Return the list of normal rows with the same sums."""
    found = []
    rest = rows
    for at in range(width):
        lead, rest = swept(rest, at)
        if lead is not None:
            found = [less(row, lead, row[at] // lead[at]) for row in found] + [lead]
    return found


def swept(rows, at):
    """Return a row that leads in a column, or None, and rows with 0 there.

    Together they have the same sums. All rows are reduced by the least one,
    round by round, because this keeps the numbers of the other columns small.
    """
    clear = [row for row in rows if row[at] == 0]
    rest = [row for row in rows if row[at] != 0]
    while len(rest) > 1:
        ordered = sorted(rest, key=lambda row: abs(row[at]))
        least = ordered[0]
        smaller = [less(row, least, row[at] // least[at]) for row in ordered[1:]]
        clear = clear + [row for row in smaller if row[at] == 0]
        rest = [least] + [row for row in smaller if row[at] != 0]
    if not rest:
        return None, clear
    return with_positive(rest[0], at), clear


def with_positive(row, at):
    """Return a row, or its negative, whose number in a column is positive."""
    if row[at] > 0:
        return row
    return tuple([-number for number in row])


def less(row, other, times):
    """Return a row less a multiple of another one."""
    return tuple([number - times * taken for number, taken in zip(row, other)])


def added(one, other):
    """Return the sum of two tuples of numbers."""
    return less(one, other, -1)


def distance(counts):
    """Return the sum of the absolute numbers of a tuple."""
    return sum([abs(number) for number in counts])


def reduced(counts, rows):
    """Return the tuple that names the place of counts, by normal rows."""
    found = counts
    for row in rows:
        at = lead_at(row)
        found = less(found, row, found[at] // row[at])
    return found


def lead_at(row):
    """Return the column of the first number that is not 0."""
    return [number != 0 for number in row].index(True)


def are_sums(tuples, rows):
    """Return whether all of some tuples are sums of normal rows."""
    return all([reduced(counts, rows) == (0,) * len(counts) for counts in tuples])


def diagonal_of(rows):
    """Return the leading numbers of normal rows, as a tuple."""
    return tuple([row[lead_at(row)] for row in rows])


def index_of(rows, width):
    """Return the number of places of normal rows, or None if it is not finite."""
    if len(rows) < width:
        return None
    index = 1
    for lead in diagonal_of(rows):
        index = index * lead
    return index


def tuples_below(sides):
    """Yield all tuples of numbers from 0 to less than each side, ascending."""
    if not sides:
        yield ()
        return
    ahead = sides[:-1]
    for head in tuples_below(ahead):
        for number in range(sides[-1]):
            yield (*head, number)


def covering_rows(needed, width, index):
    """Return the normal rows, ascending, of all tables with an index whose sums contain the needed normal rows.

    They are built from the last row to the first one, because a needed row is
    a sum of those rows only that do not lead ahead of it.
    """
    found = [([], index)]
    for at in reversed(range(width)):
        here = [row for row in needed if lead_at(row) == at]
        found = [(rows, rest // rows[0][at]) for below, rest in found for rows in rows_above(below, rest, at)
                 if are_sums(here, rows)]
    return sorted([rows for rows, rest in found])


def rows_above(below, product, at):
    """Return the normal rows below with each row on top of them that leads in this column.

    The leading number divides the product, and is all of it in the first column.
    """
    leads = [lead for lead in range(1, product + 1) if product % lead == 0] if at > 0 else [product]
    sides = diagonal_of(below)
    tails = list(tuples_below(sides))
    return [[(0,) * at + (lead,) + tail, *below] for lead in leads for tail in tails]
