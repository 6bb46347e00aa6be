"""Single steps that change words, and words that keep their steps."""

from roundswap.checks import is_number, is_number_from
from roundswap.words import is_word, opposite


def word_behind(town, word, step):
    """Return the word behind a step, or None if the step is not possible."""
    if len(step) == 0:
        return None
    kind, *rest = step
    if kind == "put" and len(rest) == 2:
        return behind_put(town, word, rest)
    if kind == "drop" and len(rest) == 1:
        return behind_drop(word, rest)
    if kind == "rule" and len(rest) == 3:
        return behind_rule(town, word, rest)
    if kind == "swap" and len(rest) == 3:
        return behind_swap(town, word, rest)
    return None


def behind_put(town, word, rest):
    """Return the word with a character and its opposite put in."""
    at, sign = rest
    if not is_number_from(at, 0, len(word)) or not is_sign(sign, town.letters):
        return None
    return word[:at] + sign + opposite(sign) + word[at:]


def is_sign(sign, letters):
    """Return whether a value is a letter of the town or its capital."""
    return isinstance(sign, str) and len(sign) == 1 and is_word(sign, letters)


def behind_drop(word, rest):
    """Return the word without two characters that are opposite to one another."""
    at = rest[0]
    if not is_number_from(at, 0, len(word) - 2) or word[at] != opposite(word[at + 1]):
        return None
    return word[:at] + word[at + 2:]


def behind_rule(town, word, rest):
    """Return the word with one side of a rule in place of the other one."""
    number, forward, at = rest
    if not is_number_from(number, 0, len(town) - 1) or not isinstance(forward, bool):
        return None
    one, other = town.rules()[number]
    old, new = (one, other) if forward else (other, one)
    if not is_number_from(at, 0, len(word)) or word[at:at + len(old)] != old:
        return None
    return word[:at] + new + word[at + len(old):]


def behind_swap(town, word, rest):
    """Return the word with two neighbouring stretches swapped."""
    at, first, second = rest
    if not all([is_number(value) and value >= 0 for value in rest]) or at + first + second > len(word):
        return None
    one, other = word[at:at + first], word[at + first:at + first + second]
    if not town.comes_round(one) or not town.comes_round(other):
        return None
    return word[:at] + other + one + word[at + first + second:]


def backward(step, word):
    """Return the step that leads back to a word, from the word behind the step."""
    kind, *rest = step
    if kind == "put":
        return "drop", rest[0]
    if kind == "drop":
        return "put", rest[0], word[rest[0]]
    if kind == "rule":
        return "rule", rest[0], not rest[1], rest[2]
    return "swap", rest[0], rest[2], rest[1]


class Trail:
    """A word of a town that is changed step by step, with the steps that lead here."""

    def __init__(self, town, word):
        self.home = town
        self.word = word
        self.forth = []
        self.back = []

    def take(self, step):
        """Take a step that is possible."""
        self.forth.append(step)
        self.back.append(backward(step, self.word))
        self.word = word_behind(self.home, self.word, step)

    def put_all(self, at, signs):
        """Put in a word and its opposite behind it."""
        for number, sign in enumerate(signs):
            self.take(("put", at + number, sign))

    def drop_all(self, at, length):
        """Drop so many characters ahead of an index, which have their opposites behind it."""
        for number in range(length):
            self.take(("drop", at - 1 - number))
