"""Towns: letters with opposites and rules between words, and the texts of towns."""

from roundswap.checks import is_number_from
from roundswap.errors import InvalidLetters, InvalidRule, ParseError, TooLong, UnknownRule, Unlike
from roundswap.phrases import LONGEST, format_word, read_word
from roundswap.tables import WIDEST, Table, less
from roundswap.walks import walk_along
from roundswap.words import check_words, counts_of, is_word

LONGEST_SIDE = 16


class Town:
    """Letters and up to six rules, each of them a pair of words."""

    MOST = 6

    def __init__(self, letters, *rules):
        check_letters(letters)
        for at, rule in enumerate(rules):
            if at == Town.MOST or not is_rule(rule, letters):
                raise InvalidRule(at)
        self.alphabet = letters
        self.pairs = list(rules)
        self.ground = Table(len(letters), [difference(rule, letters) for rule in rules])

    @classmethod
    def read(cls, text):
        """Return the town with a text."""
        letters, rules = parts_of_text(text)
        return cls(letters, *rules)

    @property
    def letters(self):
        """The letters, as a string."""
        return self.alphabet

    @property
    def width(self):
        """The number of letters."""
        return len(self.alphabet)

    @property
    def table(self):
        """The table made from the differences of the counts of both sides of each rule."""
        return self.ground

    def rules(self):
        """Return the list of rules."""
        return list(self.pairs)

    def comes_round(self, word):
        """Return whether the counts of a word are a sum of the table."""
        check_words([word], self.alphabet)
        return counts_of(word, self.alphabet) in self.ground

    def place_of(self, word):
        """Return the place of the counts of a word."""
        check_words([word], self.alphabet)
        return self.ground.place(counts_of(word, self.alphabet))

    def walk_of(self, word, *, start=None):
        """Return the walk of a word in the table."""
        return walk_along(self.ground, word, self.alphabet, start)

    def moved_rule(self, number, counts):
        """Return the walk of the first side of a rule less that of its second side, moved."""
        self.check_rule(number)
        one, other = self.pairs[number]
        return self.walk_of(one).minus(self.walk_of(other)).moved(counts)

    def with_rules(self, *more):
        """Return the town with more rules behind its own."""
        rules = [*self.pairs, *more]
        return Town(self.alphabet, *rules)

    def without(self, number):
        """Return the town without a rule."""
        self.check_rule(number)
        rules = self.pairs[:number] + self.pairs[number + 1:]
        return Town(self.alphabet, *rules)

    def joined(self, other):
        """Return the town with the rules of both, those of the other one only if they are new."""
        if self.alphabet != other.alphabet:
            raise Unlike()
        rules = list(self.pairs)
        for rule in other.pairs:
            if rule not in rules:
                rules.append(rule)
        return Town(self.alphabet, *rules)

    def check_rule(self, number):
        """Raise UnknownRule if there is no rule with this number."""
        if not is_number_from(number, 0, len(self.pairs) - 1):
            raise UnknownRule(number)

    def text(self):
        """Return the text of the town."""
        rules = [f"{format_word(one)} = {format_word(other)}" for one, other in self.pairs]
        return "; ".join([self.alphabet, *rules])

    def __len__(self):
        return len(self.pairs)

    def __eq__(self, other):
        return isinstance(other, Town) and self.alphabet == other.alphabet and self.pairs == other.pairs

    def __repr__(self):
        return f"Town({len(self.alphabet)} letters, {len(self.pairs)} rules)"


def read_town(text):
    """Return the town with a text."""
    letters, rules = parts_of_text(text)
    return Town(letters, *rules)


def parts_of_text(text):
    """Return the letters and the rules of the text of a town."""
    first, *parts = text.split(";")
    letters = first.strip(" ")
    check_letters(letters)
    return letters, read_rules(parts, letters)


def check_letters(letters):
    """Raise InvalidLetters if a string is not 1 to 3 different lowercase letters."""
    if letters == "":
        raise InvalidLetters(0)
    for at, letter in enumerate(letters):
        if at == WIDEST or letter in letters[:at] or not "a" <= letter <= "z":
            raise InvalidLetters(at)


def is_rule(rule, letters):
    """Return whether a value is a pair of words that are short enough."""
    return isinstance(rule, tuple) and len(rule) == 2 and all([is_side(word, letters) for word in rule])


def is_side(word, letters):
    """Return whether a string is a word that is short enough for a rule."""
    return len(word) <= LONGEST_SIDE and is_word(word, letters)


def difference(rule, letters):
    """Return the counts of the first side of a rule less those of its second side."""
    one, other = rule
    return less(counts_of(one, letters), counts_of(other, letters), 1)


def read_rules(parts, letters):
    """Return the rules with the parts of a text behind its letters."""
    rules = [read_rule(part, letters, at) for at, part in enumerate(parts, start=1)]
    # Only now, because a later part that cannot be read comes first.
    if any([None in rule for rule in rules]):
        raise TooLong(LONGEST)
    return rules


def read_rule(part, letters, at):
    """Return the pair of words of a part, with None for a word that is too long."""
    sides = part.split("=")
    if len(sides) != 2:
        raise ParseError(at)
    try:
        return read_side(sides[0], letters), read_side(sides[1], letters)
    except ParseError:
        raise ParseError(at) from None


def read_side(text, letters):
    """Return the word with a phrase, or None if it is too long."""
    try:
        return read_word(text, letters)
    except TooLong:
        return None
