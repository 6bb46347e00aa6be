"""Phrases, the longer forms of words, and the texts of words.

Each reading function takes the index of a character and returns, behind what
it read, the index of the first character that is not its own.
"""

from roundswap.errors import ParseError, TooLong
from roundswap.words import opposite, signs_of

LONGEST = 400
DEEPEST = 6


def read_word(text, letters):
    """Return the word with a phrase, not shortened."""
    word, at = read_phrase(text, signs_of(letters), 0, 0)
    if at < len(text):
        raise ParseError(at)
    if len(word) > LONGEST:
        raise TooLong(LONGEST)
    return word


def read_phrase(text, signs, at, depth):
    """Read factors and the spaces around them, as many as there are."""
    word, at = read_factor(text, signs, behind_spaces(text, at), depth)
    while begins_atom(text, signs, at, depth):
        factor, at = read_factor(text, signs, at, depth)
        word = cut(word + factor)
    return word, at


def read_factor(text, signs, at, depth):
    """Read an atom with its exponent, if it has one, and the spaces behind."""
    word, at = read_atom(text, signs, at, depth)
    at = behind_spaces(text, at)
    if mark_at(text, at) != "^":
        return word, at
    exponent, at = read_exponent(text, behind_spaces(text, at + 1))
    return power(word, exponent), behind_spaces(text, at)


def read_atom(text, signs, at, depth):
    """Read a letter, the atom 1, or a phrase in parentheses or in brackets."""
    if not begins_atom(text, signs, at, depth):
        raise ParseError(at)
    mark = text[at]
    if mark == "(":
        return read_group(text, signs, at, depth + 1)
    if mark == "[":
        return read_pair(text, signs, at, depth + 1)
    if mark == "1":
        check_no_digit(text, at + 1)
        return "", at + 1
    return mark, at + 1


def read_group(text, signs, at, depth):
    """Read a phrase in parentheses."""
    word, at = read_phrase(text, signs, at + 1, depth)
    check_mark(text, at, ")")
    return word, at + 1


def read_pair(text, signs, at, depth):
    """Read two phrases in brackets."""
    one, at = read_phrase(text, signs, at + 1, depth)
    check_mark(text, at, ",")
    other, at = read_phrase(text, signs, at + 1, depth)
    check_mark(text, at, "]")
    return cut(one + other + opposite(one) + opposite(other)), at + 1


def read_exponent(text, at):
    """Read a number of one or two digits, or a minus and such a number."""
    minus = mark_at(text, at) == "-"
    begin = at + 1 if minus else at
    first = mark_at(text, begin)
    if not first.isdigit() or (minus and first == "0"):
        raise ParseError(begin)
    end = begin + 1
    if first != "0" and mark_at(text, end).isdigit():
        end = end + 1
    check_no_digit(text, end)
    number = int(text[begin:end])
    return (-number if minus else number), end


def begins_atom(text, signs, at, depth):
    """Return whether the character at an index can begin an atom at this depth."""
    mark = mark_at(text, at)
    return mark in signs or mark == "1" or (mark in ("(", "[") and depth < DEEPEST)


def mark_at(text, at):
    """Return the character at an index, or the empty string behind the end."""
    return text[at:at + 1]


def behind_spaces(text, at):
    """Return the index of the first character from here on that is not a space."""
    while mark_at(text, at) == " ":
        at = at + 1
    return at


def check_mark(text, at, mark):
    """Raise ParseError if another character stands at an index."""
    if mark_at(text, at) != mark:
        raise ParseError(at)


def check_no_digit(text, at):
    """Raise ParseError if a digit stands at an index."""
    if mark_at(text, at).isdigit():
        raise ParseError(at)


def power(word, exponent):
    """Return the power of a word, cut."""
    if exponent < 0:
        return cut(opposite(word) * -exponent)
    return cut(word * exponent)


def cut(word):
    """Return a word, or a part of it that is still too long.

    Nested powers would grow beyond all memory. A word that is too long is
    either part of a whole that is too long, or the power 0 removes it, so its
    characters do not matter and one of them too many is enough.
    """
    return word[:LONGEST + 1]


def format_word(word):
    """Return the text of a word."""
    if word == "":
        return "1"
    return " ".join([format_run(sign, length) for sign, length in runs_of(word)])


def runs_of(word):
    """Return the pairs of the character and the length of each run."""
    runs = []
    begin = 0
    for at in range(1, len(word) + 1):
        if at == len(word) or word[at] != word[begin]:
            runs.append((word[begin], at - begin))
            begin = at
    return runs


def format_run(sign, length):
    """Return the letter of a run, with an exponent if it needs one."""
    if sign.isupper():
        return f"{sign.lower()}^-{length}"
    if length > 1:
        return f"{sign}^{length}"
    return sign
