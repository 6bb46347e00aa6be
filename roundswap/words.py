"""Words: opposites, shortened words, counts, and the order of words."""

from roundswap.errors import InvalidWord


def signs_of(letters):
    """Return the letters and their capitals as a list, in the order of words."""
    return [sign for letter in letters for sign in (letter, letter.upper())]


def is_word(word, letters):
    """Return whether a string is a word for the letters."""
    return sum([word.count(sign) for sign in signs_of(letters)]) == len(word)


def check_words(words, letters):
    """Raise InvalidWord with the position of the first string that is not a word."""
    for at, word in enumerate(words):
        if not is_word(word, letters):
            raise InvalidWord(at)


def opposite(word):
    """Return the opposites of the characters, from the end to the beginning."""
    return word[::-1].swapcase()


def shortened(word):
    """Return the only shortened word to which removing pairs leads."""
    kept = []
    for sign in word:
        if kept and kept[-1] == opposite(sign):
            kept.pop()
        else:
            kept.append(sign)
    return "".join(kept)


def counts(word, letters):
    """Return for each letter how often it occurs, less how often its capital does."""
    check_words([word], letters)
    return counts_of(word, letters)


def counts_of(word, letters):
    """Return the counts of what is known to be a word."""
    return tuple([word.count(letter) - word.count(letter.upper()) for letter in letters])


def path_to(numbers, letters):
    """Return a word with these counts."""
    return "".join([(letter if number > 0 else letter.upper()) * abs(number)
                    for letter, number in zip(letters, numbers)])


def precedes(one, other, letters):
    """Return whether the first word comes before the second one."""
    check_words([one, other], letters)
    return rank(one, letters) < rank(other, letters)


def rank(word, letters):
    """Return a value that is less the earlier the word comes."""
    signs = signs_of(letters)
    return len(word), [signs.index(sign) for sign in word]


def words_of(letters, length):
    """Yield all shortened words with exactly this length, in ascending order."""
    if length == 0:
        yield ""
    if length < 1:
        return
    shorter = length - 1
    for word in words_of(letters, shorter):
        for sign in signs_of(letters):
            if not word.endswith(opposite(sign)):
                yield word + sign
