"""Pages: the towns and claims of an atlas as a text."""

from roundswap.atlas import Atlas
from roundswap.commands import Draft, add_claim, add_town
from roundswap.errors import Missing, ParseError, TownError
from roundswap.phrases import format_word, read_word
from roundswap.towns import read_town


def format_atlas(atlas):
    """Return the page of an atlas."""
    lines = [town_line(name, atlas.town_of(name)) for name in atlas.names()]
    lines = lines + [claim_line(label, atlas.claim_of(label)) for label in atlas.labels()]
    return "".join([line + "\n" for line in lines])


def town_line(name, town):
    """Return the line of a town."""
    return f"town {name} {town.text()}"


def claim_line(label, claim):
    """Return the line of a claim."""
    kind, name, one, other = claim
    return f"claim {label} {kind} {name} {format_word(one)} = {format_word(other)}"


def parse_atlas(text):
    """Return a new atlas with a page."""
    *lines, rest = text.split("\n")
    atlas = Atlas(limit=Atlas.MOST)
    draft = Draft({}, {}, Atlas.MOST)
    for at, line in enumerate(lines):
        if not is_line_taken(draft, line):
            raise ParseError(at)
    # What stands behind the last line feed would be a line without one.
    if rest != "":
        raise ParseError(len(lines))
    atlas.turn_to(draft.towns, draft.claims)
    return atlas


def is_line_taken(draft, line):
    """Return whether a line of a page comes behind what a draft has, and put it there."""
    try:
        if line.startswith("town "):
            return not draft.claims and is_town_taken(draft, line)
        return line.startswith("claim ") and is_claim_taken(draft, line)
    except (TownError, Missing):
        return False


def is_town_taken(draft, line):
    """Return whether a line of a town comes behind the towns of a draft, and put the town there."""
    head, name, text = split_words(line, 3)
    town = read_town(text)
    if town_line(name, town) != line or not comes_last(name, draft.towns):
        return False
    add_town(draft, name, town)
    return True


def is_claim_taken(draft, line):
    """Return whether a line of a claim comes behind the claims of a draft, and put the claim there."""
    head, label, kind, name, words = split_words(line, 5)
    letters = draft.town_named(name).letters
    one, mark, other = words.partition(" = ")
    claim = (kind, name, read_word(one, letters), read_word(other, letters))
    if claim_line(label, claim) != line or not comes_last(label, draft.claims):
        return False
    add_claim(draft, label, *claim)
    return True


def split_words(line, many):
    """Return so many words of a line, the last one with all that is behind; those that are missing are empty."""
    words = line.split(" ", many - 1)
    return words + [""] * (many - len(words))


def comes_last(name, others):
    """Return whether a name is greater than all others."""
    return all([other < name for other in others])
