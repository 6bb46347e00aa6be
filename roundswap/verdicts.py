"""Verdicts about two words of a town: even with a sum, or parted by a toll town."""

from roundswap.checks import is_number_from
from roundswap.errors import InvalidNumber, Unlike
from roundswap.judges import Judge
from roundswap.words import check_words

GREATEST_POWER = 12


class Verdict:
    """What is known about two words of a town; nothing yet."""

    def __init__(self, town, one, other):
        check_words([one, other], town.letters)
        self.judged = town
        self.left = one
        self.right = other

    @property
    def town(self):
        """The town of the words."""
        return self.judged

    @property
    def one(self):
        """The first word."""
        return self.left

    @property
    def other(self):
        """The second word."""
        return self.right

    def told(self):
        """Return the verdict in words."""
        return "open"

    def __bool__(self):
        return False

    def __repr__(self):
        return f"Verdict({self.told()})"


class Even(Verdict):
    """Two words that are even, with a sum for them."""

    def __init__(self, town, one, other, rows):
        super().__init__(town, one, other)
        self.addends = list(rows)

    def rows(self):
        """Return the list of the sum."""
        return list(self.addends)

    def told(self):
        """Return the verdict in words."""
        return "even"

    def __bool__(self):
        return True

    def __repr__(self):
        return f"Even({self.told()})"


class Parted(Verdict):
    """Two words that are not even, with a toll town that parts them."""

    def __init__(self, town, one, other, toll_town):
        super().__init__(town, one, other)
        self.barrier = toll_town

    @property
    def toll_town(self):
        """The toll town that keeps the town and parts the words."""
        return self.barrier

    def told(self):
        """Return the verdict in words."""
        return f"parted: {self.barrier.size} places, modulus {self.barrier.modulus}"

    def __bool__(self):
        return False

    def __repr__(self):
        return f"Parted({self.told()})"


def decide(town, one, other):
    """Return the verdict about two words."""
    check_words([one, other], town.letters)
    judge = Judge(town)
    rows = judge.find_sum(one, other)
    if rows is not None:
        return Even(town, one, other, rows)
    return Parted(town, one, other, judge.least_toll_town(one, other))


def is_even(town, one, other):
    """Return whether two words are even."""
    check_words([one, other], town.letters)
    return Judge(town).is_even(one, other)


def commute(town, one, other):
    """Return whether two words are even in both orders, one behind the other."""
    check_words([one, other], town.letters)
    return is_even(town, one + other, other + one)


def least_power(town, word, *, most=GREATEST_POWER):
    """Return the least power of a word, from 1 to most, that is even with the empty word, or None."""
    check_words([word], town.letters)
    if not is_number_from(most, 1, GREATEST_POWER):
        raise InvalidNumber(most)
    judge = Judge(town)
    for power in range(1, most + 1):
        if judge.is_even(word * power, ""):
            return power
    return None


def unlike_rule(one, other):
    """Return the first rule of one of two towns that the other one does not keep, with 0 or 1 for the town, or None."""
    if one.letters != other.letters:
        raise Unlike()
    number = first_broken(one, other)
    if number is not None:
        return 0, number
    number = first_broken(other, one)
    if number is not None:
        return 1, number
    return None


def first_broken(source, target):
    """Return the number of the first rule of a town whose sides are not even in another one, or None."""
    judge = Judge(target)
    for number, (one, other) in enumerate(source.rules()):
        if not judge.is_even(one, other):
            return number
    return None
