"""Words that go along the streets of a walk as often as it tells, in the table without rows."""

from roundswap.tables import distance
from roundswap.walks import stepped
from roundswap.words import opposite, path_to


class Rounds:
    """The steps of a walk that no word has taken yet, as characters by the places where they begin."""

    def __init__(self, letters, streets):
        self.alphabet = letters
        self.open_steps = {}
        for place, letter, number in streets:
            begin = place if number > 0 else stepped(place, letter, 1)
            sign = letters[letter] if number > 0 else letters[letter].upper()
            signs = self.open_steps.setdefault(begin, [])
            signs.extend([sign] * abs(number))

    def all_steps(self):
        """Return a word that takes all steps, from the place of zeros."""
        word = self.steps_from((0,) * len(self.alphabet))
        while self.open_steps:
            begin = min(sorted(self.open_steps), key=distance)
            path = path_to(begin, self.alphabet)
            word = path + self.steps_from(begin) + opposite(path) + word
        return word

    def steps_from(self, begin):
        """Return a word that takes all steps that hang together with a place, from this place.

        Where a round closes too early, the steps that are left at a place of it
        are put in there on the way back.
        """
        ways = [(begin, "")]
        signs = []
        while ways:
            place, sign = ways[-1]
            if place in self.open_steps:
                ways.append(self.next_way(place))
            else:
                ways.pop()
                signs.append(sign)
        return "".join(signs[::-1])

    def next_way(self, place):
        """Take a step from a place, and return the place behind and the character."""
        signs = self.open_steps[place]
        sign = signs.pop()
        if not signs:
            del self.open_steps[place]
        letter = self.alphabet.index(sign.lower())
        return stepped(place, letter, 1 if sign.islower() else -1), sign
