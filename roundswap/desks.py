"""Desks, which answer lines about an atlas."""

from roundswap.atlas import Atlas
from roundswap.commands import check_name
from roundswap.errors import Missing, NothingLeft, TownError
from roundswap.firsts import first_word
from roundswap.phrases import format_word, read_word
from roundswap.towns import read_town

# How many words a line has, and what the last one is: a word, a number, or all that is behind.
FORMS = {
    "town": (3, "text"),
    "rule": (3, "pair"),
    "strike": (3, "number"),
    "rename": (3, "word"),
    "drop": (2, "word"),
    "claim": (5, "pair"),
    "unclaim": (2, "word"),
    "undo": (1, "word"),
    "redo": (1, "word"),
    "names": (1, "word"),
    "labels": (1, "word"),
    "show": (2, "word"),
    "even": (3, "pair"),
    "first": (3, "text"),
    "least": (3, "pair"),
    "broken": (1, "word"),
}


class Desk:
    """An atlas, and the lines that were asked about it."""

    def __init__(self, *, atlas=None):
        self.shelf = Atlas() if atlas is None else atlas
        self.entries = []

    def atlas(self):
        """Return the atlas itself."""
        return self.shelf

    def ask(self, line):
        """Apply a line and return its answer."""
        answer = answer_to(self.shelf, line)
        self.entries.append((line, answer))
        return answer

    def __call__(self, line):
        return self.ask(line)

    def log(self):
        """Return the list of the pairs of all lines and answers."""
        return list(self.entries)


def answer_to(atlas, line):
    """Return the answer to a line."""
    words = words_of_line(line)
    if words is None:
        return "what"
    action = ANSWERS[words[0]]
    rest = words[1:]
    try:
        return action(atlas, *rest)
    except (TownError, Missing, NothingLeft) as error:
        return f"error {error.tag}"


def words_of_line(line):
    """Return the words of a line, the last one of a pair split in two, or None if the line has no form."""
    head = line.split(" ")[0]
    if head not in FORMS:
        return None
    many, last = FORMS[head]
    if last in ("word", "number"):
        words = line.split(" ")
        is_formed = "" not in words and (last == "word" or is_short_number(words[-1]))
    else:
        words = line.split(" ", many - 1)
        is_formed = "" not in words[:-1] and (last == "text" or "=" in words[-1])
    if len(words) != many or not is_formed:
        return None
    if last == "pair":
        one, mark, other = words[-1].partition("=")
        return words[:-1] + [one, other]
    return words


def is_short_number(text):
    """Return whether a text is 1 or 2 digits without a leading zero."""
    return text.isdigit() and len(text) <= 2 and str(int(text)) == text


def answer_town(atlas, name, text):
    """Keep a new town."""
    check_name(name)
    town = read_town(text)
    atlas.apply(("town", name, town))
    return "ok"


def answer_rule(atlas, name, one, other):
    """Add a rule to a town."""
    first, second = read_pair_of_words(atlas, name, one, other)
    atlas.apply(("rule", name, first, second))
    return "ok"


def read_pair_of_words(atlas, name, one, other):
    """Return the words of a town with two phrases."""
    letters = atlas.town_of(name).letters
    first = read_word(one, letters)
    return first, read_word(other, letters)


def answer_strike(atlas, name, number):
    """Remove a rule of a town."""
    atlas.apply(("strike", name, int(number)))
    return "ok"


def answer_rename(atlas, name, new):
    """Give a town another name."""
    atlas.apply(("rename", name, new))
    return "ok"


def answer_drop(atlas, name):
    """Remove a town."""
    atlas.apply(("drop", name))
    return "ok"


def answer_claim(atlas, label, kind, name, one, other):
    """Keep a claim."""
    # The label, the kind and the name come ahead of the phrases.
    atlas.drafted(()).check_claim(label, kind, name)
    first, second = read_pair_of_words(atlas, name, one, other)
    atlas.apply(("claim", label, kind, name, first, second))
    return "ok"


def answer_unclaim(atlas, label):
    """Remove a claim."""
    atlas.apply(("unclaim", label))
    return "ok"


def answer_undo(atlas):
    """Undo a step."""
    atlas.undo()
    return "ok"


def answer_redo(atlas):
    """Redo a step."""
    atlas.redo()
    return "ok"


def answer_names(atlas):
    """Return all names."""
    return listed(atlas.names())


def answer_labels(atlas):
    """Return all labels."""
    return listed(atlas.labels())


def listed(names):
    """Return names with spaces between, or none."""
    return " ".join(names) if names else "none"


def answer_show(atlas, name):
    """Return the text of a town."""
    return atlas.town_of(name).text()


def answer_even(atlas, name, one, other):
    """Return whether two words are even."""
    first, second = read_pair_of_words(atlas, name, one, other)
    return "yes" if atlas.verdict(name, first, second) else "no"


def answer_first(atlas, name, phrase):
    """Return the text of the first word of a word."""
    town = atlas.town_of(name)
    word = read_word(phrase, town.letters)
    return format_word(first_word(town, word))


def answer_least(atlas, name, one, other):
    """Return the index and the modulus of the least toll towns that part two words, or none."""
    first, second = read_pair_of_words(atlas, name, one, other)
    verdict = atlas.verdict(name, first, second)
    if verdict:
        return "none"
    return f"{verdict.toll_town.size} {verdict.toll_town.modulus}"


def answer_broken(atlas):
    """Return the labels of all claims that do not hold."""
    return listed(atlas.broken())


ANSWERS = {
    "town": answer_town,
    "rule": answer_rule,
    "strike": answer_strike,
    "rename": answer_rename,
    "drop": answer_drop,
    "claim": answer_claim,
    "unclaim": answer_unclaim,
    "undo": answer_undo,
    "redo": answer_redo,
    "names": answer_names,
    "labels": answer_labels,
    "show": answer_show,
    "even": answer_even,
    "first": answer_first,
    "least": answer_least,
    "broken": answer_broken,
}
