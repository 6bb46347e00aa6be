"""Words that turn a word into another one, and words with a given walk, in towns without rules."""

from roundswap.errors import InvalidTable, NoWord
from roundswap.rounds import Rounds
from roundswap.tables import Table, added, lead_at, less
from roundswap.walks import Walk, check_width, walk_along
from roundswap.words import check_words, counts_of, path_to


def turner(letters, one, other):
    """Return a word that turns one word into another one in the town without rules, or None."""
    check_words([one, other], letters)
    turn = counts_of(one, letters)
    if turn != counts_of(other, letters):
        return None
    by = shift_between(rolled(letters, one), rolled(letters, other))
    if by is None or not any(turn):
        return None if by is None else path_to(by, letters)
    # The turning word goes forth and, one turn of the word later, back. So what
    # lies between both walks is its walk less the same walk one turn later.
    table = Table(len(letters))
    between = walk_along(table, other, letters, None).minus(walk_along(table, one, letters, by))
    return word_of(letters, unrolled(between, turn))


def shift_between(one, other):
    """Return a tuple by which one walk is moved to another one, or None."""
    if len(one) == 0 and len(other) == 0:
        return (0,) * one.table.width
    for place, letter, number in other.streets()[:1]:
        for begin, name, count in one.streets():
            by = less(place, begin, 1)
            if name == letter and count == number and one.moved(by) == other:
                return by
    return None


def unrolled(walk, turn):
    """Return the walk that, less itself moved by one turn, is the given one."""
    at = lead_at(turn)
    rest = {(place, letter): number for place, letter, number in walk.streets()}
    found = []
    while rest:
        # The first streets along the turn get nothing from others.
        place, letter = min(list(rest), key=lambda street: street[0][at] * turn[at])
        number = rest.pop((place, letter))
        if number != 0:
            found.append((place, letter, number))
            later = (added(place, turn), letter)
            rest[later] = rest.get(later, 0) + number
    return Walk(walk.table, found)


def rolled(letters, word):
    """Return the walk of a word in the table with its counts as the only row."""
    check_words([word], letters)
    table = Table(len(letters), [counts_of(word, letters)])
    return walk_along(table, word, letters, None)


def word_of(letters, walk):
    """Return a word with a walk in the table without rows."""
    check_width(letters, walk.table)
    if walk.table.rows():
        raise InvalidTable(0)
    if not has_ends_of_word(walk):
        raise NoWord()
    return Rounds(letters, walk.streets()).all_steps()


def has_ends_of_word(walk):
    """Return whether a walk leads from the place of zeros to one place, or comes back there."""
    ends = walk.ends()
    begin = ((0,) * walk.table.width, -1)
    return ends == [] or (len(ends) == 2 and begin in ends and 1 in [number for place, number in ends])
