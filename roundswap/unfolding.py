"""Unfolding: steps that lead a word to a form that only its walk and its end tell.

A tree has for each place on the ways of the words a path, which is a word from
the place of zeros. A loop of a street goes by paths to its beginning, along the
street, and back from its end. The form of a word has the loops of all streets
beside the tree, sorted and as often as the walk tells, and then the path to its
end.
"""

from roundswap.walks import stepped
from roundswap.words import opposite


class Tree:
    """The paths to all places on the ways of some words."""

    def __init__(self, town, words):
        self.home = town
        self.paths = {town.table.place((0,) * town.width): ""}
        for word in words:
            self.plant(word)

    def plant(self, word):
        """Let the way to each place that is new be its path."""
        here = self.home.table.place((0,) * self.home.width)
        for sign in word:
            there = self.behind(here, sign)
            if there not in self.paths:
                self.paths[there] = self.paths[here] + sign
            here = there

    def behind(self, place, sign):
        """Return the place behind a step."""
        letter = self.home.letters.index(sign.lower())
        return self.home.table.place(stepped(place, letter, 1 if sign.islower() else -1))

    def street(self, place, sign):
        """Return the street of a step, as a pair of its beginning and its letter."""
        return (place if sign.islower() else self.behind(place, sign)), sign.lower()


class Unfolding:
    """A trail on which loops are gathered at the beginning of the word, in the order of their streets.

    Behind the loops stands the path to a place, and behind it the rest of the
    word that is still to be looked at. A loop is a tuple (street, is forward,
    length).
    """

    def __init__(self, trail, tree):
        self.trail = trail
        self.tree = tree
        self.loops = []
        self.here = tree.home.table.place((0,) * tree.home.width)

    def run(self):
        """Lead the word of the trail to its form."""
        word = self.trail.word
        for sign in word:
            self.follow(sign)

    def follow(self, sign):
        """Go along the next step of the word."""
        there = self.tree.behind(self.here, sign)
        path, ahead = self.tree.paths[self.here], self.tree.paths[there]
        end = self.length_of_loops() + len(path)
        if path == ahead + opposite(sign):
            self.trail.take(("drop", end - 1))
        elif ahead != path + sign:
            self.trail.put_all(end + 1, opposite(ahead))
            street = self.tree.street(self.here, sign)
            self.gather((street, sign.islower(), len(path) + 1 + len(ahead)))
        self.here = there

    def length_of_loops(self):
        """Return how many characters the loops have."""
        return sum([length for street, forward, length in self.loops])

    def gather(self, loop):
        """Bring a loop that stands behind the others to its street, and cancel it with an opposite one there."""
        street, forward, length = loop
        number = len([other for other in self.loops if other[0] < street])
        begin = sum([other[2] for other in self.loops[:number]])
        behind = self.length_of_loops() - begin
        if behind > 0:
            self.trail.take(("swap", begin, behind, length))
        if self.loops[number:number + 1] == [(street, not forward, length)]:
            self.trail.drop_all(begin + length, length)
            del self.loops[number]
        else:
            self.loops.insert(number, loop)
