"""Chains of steps between even words."""

from roundswap.errors import InvalidStep, NotASum, TooLong
from roundswap.steps import Trail, word_behind
from roundswap.sums import is_sum, size_of_sum
from roundswap.unfolding import Tree, Unfolding
from roundswap.words import check_words, path_to

GREATEST_SIZE = 40


def applied(town, word, step):
    """Return the word behind a step."""
    check_words([word], town.letters)
    behind = word_behind(town, word, step)
    if behind is None:
        raise InvalidStep(0)
    return behind


def walked(town, word, steps):
    """Yield a word and then the word behind each step."""
    check_words([word], town.letters)
    here = word
    yield here
    for at, step in enumerate(steps):
        here = word_behind(town, here, step)
        if here is None:
            raise InvalidStep(at)
        yield here


def is_chain(town, one, other, steps):
    """Return whether steps lead from one word to another one."""
    check_words([one, other], town.letters)
    here = one
    for step in steps:
        here = word_behind(town, here, step)
        if here is None:
            return False
    return here == other


def chain_of(town, one, other, rows):
    """Return a chain for two words and a sum."""
    check_words([one, other], town.letters)
    if not is_sum(town, one, other, rows):
        raise NotASum()
    if size_of_sum(rows) > GREATEST_SIZE:
        raise TooLong(GREATEST_SIZE)
    begin = Trail(town, one)
    for row in rows:
        put_rules(begin, row)
    # Both words have the same walk now, so both are unfolded to the same word.
    end = Trail(town, other)
    tree = Tree(town, [begin.word, end.word])
    Unfolding(begin, tree).run()
    Unfolding(end, tree).run()
    return begin.forth + end.back[::-1]


def put_rules(trail, row):
    """Put the rule of a row in ahead of the word, from its place, so that the row is taken off the walk."""
    place, number, count = row
    path = path_to(place, trail.home.letters)
    one, other = trail.home.rules()[number]
    side = one if count > 0 else other
    trail.put_all(0, path)
    for time in range(abs(count)):
        trail.put_all(len(path), side)
        trail.take(("rule", number, count > 0, len(path)))

