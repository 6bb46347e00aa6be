"""First words: for each word the first one that is even with it."""

from roundswap.checks import is_number_from
from roundswap.errors import InvalidNumber, TooLong
from roundswap.judges import Judge
from roundswap.words import check_words, shortened, words_of

LONGEST = 6
LONGEST_LISTED = 3


def first_word(town, word):
    """Return the first word that is even with a word."""
    check_words([word], town.letters)
    short = shortened(word)
    if len(short) > LONGEST:
        raise TooLong(LONGEST)
    judge = Judge(town)
    letters = town.letters
    for length in range(len(short)):
        for candidate in words_of(letters, length):
            if judge.is_even(candidate, short):
                return candidate
    return first_of_length(judge, letters, short)


def first_of_length(judge, letters, short):
    """Return the first word of the same length that is even with a word, at last the word itself."""
    length = len(short)
    for candidate in words_of(letters, length):
        if candidate == short or judge.is_even(candidate, short):
            return candidate
    return short


def first_words(town, most):
    """Yield all words that are their own first words and are not too long, in ascending order."""
    if not is_number_from(most, 0, LONGEST_LISTED):
        raise InvalidNumber(most)
    judge = Judge(town)
    letters = town.letters
    firsts = {}
    for length in range(most + 1):
        for word in words_of(letters, length):
            earlier = firsts.setdefault(town.place_of(word), [])
            if is_new(judge, earlier, word):
                earlier.append(word)
                yield word


def is_new(judge, earlier, word):
    """Return whether a word is even with none of the earlier ones."""
    for other in earlier:
        if judge.is_even(other, word):
            return False
    return True
