"""Leads between towns: a word of the one for each letter of the other."""

from roundswap.errors import InvalidLead, Unlike
from roundswap.judges import Judge
from roundswap.words import check_words, is_word, opposite, shortened


class Lead:
    """A word of the target for each letter of the source."""

    def __init__(self, source, target, words):
        check_lead(words, source, target)
        self.origin_town = source
        self.goal_town = target
        self.pictures = list(words)

    @classmethod
    def same(cls, town):
        """Return the lead from a town to itself that leads each letter to itself."""
        return cls(town, town, list(town.letters))

    @property
    def source(self):
        """The town whose words are led."""
        return self.origin_town

    @property
    def target(self):
        """The town to whose words they are led."""
        return self.goal_town

    def words(self):
        """Return the list of the words for the letters."""
        return list(self.pictures)

    def image(self, word):
        """Return the image of a word, not shortened."""
        check_words([word], self.origin_town.letters)
        return "".join([self.image_of_sign(sign) for sign in word])

    def image_of_sign(self, sign):
        """Return the word for a letter, or its opposite for a capital."""
        picture = self.pictures[self.origin_town.letters.index(sign.lower())]
        return picture if sign.islower() else opposite(picture)

    def __call__(self, word):
        return self.image(word)

    def keeps(self, number):
        """Return whether the images of both sides of a rule are even."""
        self.origin_town.check_rule(number)
        return self.is_kept(Judge(self.goal_town), self.origin_town.rules()[number])

    def fault(self):
        """Return the number of the first rule that is not kept, or None."""
        judge = Judge(self.goal_town)
        for number, rule in enumerate(self.origin_town.rules()):
            if not self.is_kept(judge, rule):
                return number
        return None

    def is_kept(self, judge, rule):
        """Return whether the images of both sides of a rule are even, as a judge of the target finds."""
        one, other = rule
        return judge.is_even(self.image(one), self.image(other))

    def then(self, other):
        """Return the lead that leads first by this one, then by another one, with shortened words."""
        if self.goal_town != other.source:
            raise Unlike()
        return Lead(self.origin_town, other.target, [shortened(other.image(word)) for word in self.pictures])

    def alike(self, other):
        """Return whether the images of each letter by both leads are even."""
        if self.origin_town != other.source or self.goal_town != other.target:
            raise Unlike()
        judge = Judge(self.goal_town)
        for one, word in zip(self.pictures, other.words()):
            if not judge.is_even(one, word):
                return False
        return True

    def __eq__(self, other):
        return (isinstance(other, Lead) and self.origin_town == other.origin_town
                and self.goal_town == other.goal_town and self.pictures == other.pictures)

    def __repr__(self):
        return f"Lead({len(self.origin_town.letters)} letters, {len(self.goal_town.letters)} letters)"


def check_lead(words, source, target):
    """Raise InvalidLead with the index of the first word that is not valid, missing or too many."""
    for at, word in enumerate(words[:source.width]):
        if not is_word(word, target.letters):
            raise InvalidLead(at)
    if len(words) != source.width:
        raise InvalidLead(min(len(words), source.width))
