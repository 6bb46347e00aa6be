"""Commands of an atlas, and drafts to which they are applied."""

from roundswap.errors import CapacityExceeded, DuplicateName, InUse, InvalidCommand, InvalidName, UnknownName
from roundswap.words import check_words

LONGEST_NAME = 8
MOST_CLAIMS = 20
KINDS = ("even", "parted")
LENGTHS = {"town": 3, "rule": 4, "strike": 3, "rename": 3, "drop": 2, "claim": 6, "unclaim": 2}


class Draft:
    """The towns by names and the claims by labels of an atlas, as commands change them."""

    def __init__(self, towns, claims, most_towns):
        self.towns = dict(towns)
        self.claims = dict(claims)
        self.most_towns = most_towns

    def town_named(self, name):
        """Return the town with a name."""
        if name not in self.towns:
            raise UnknownName(name)
        return self.towns[name]

    def check_claim(self, label, kind, name):
        """Raise the first error that a new claim with these parts has, ahead of its words."""
        check_name(label)
        if label in self.claims:
            raise DuplicateName(label)
        if kind not in KINDS:
            raise InvalidCommand(kind)
        self.town_named(name)


def is_name(name):
    """Return whether a string is 1 to 8 lowercase letters."""
    return 1 <= len(name) <= LONGEST_NAME and all(["a" <= sign <= "z" for sign in name])


def check_name(name):
    """Raise InvalidName if a string is not a name."""
    if not is_name(name):
        raise InvalidName(name)


def check_form(command):
    """Raise InvalidCommand if a tuple does not begin as a command, or has another number of items than it."""
    if len(command) == 0:
        raise InvalidCommand(None)
    if len(command) != LENGTHS.get(command[0], 0):
        raise InvalidCommand(command[0])


def add_town(draft, name, town):
    """Keep a new town."""
    check_name(name)
    if name in draft.towns:
        raise DuplicateName(name)
    if len(draft.towns) >= draft.most_towns:
        raise CapacityExceeded(draft.most_towns)
    draft.towns[name] = town


def add_rule(draft, name, one, other):
    """Add a rule behind the others of a town."""
    draft.towns[name] = draft.town_named(name).with_rules((one, other))


def strike_rule(draft, name, number):
    """Remove a rule of a town."""
    draft.towns[name] = draft.town_named(name).without(number)


def rename_town(draft, name, new):
    """Give a town another name, also in all claims."""
    town = draft.town_named(name)
    check_name(new)
    if new in draft.towns:
        raise DuplicateName(new)
    del draft.towns[name]
    draft.towns[new] = town
    draft.claims = {label: renamed_claim(claim, name, new) for label, claim in draft.claims.items()}


def renamed_claim(claim, name, new):
    """Return a claim with a new name in place of an old one."""
    kind, place, one, other = claim
    return kind, (new if place == name else place), one, other


def drop_town(draft, name):
    """Remove a town that no claim has."""
    draft.town_named(name)
    for label in sorted(draft.claims):
        if draft.claims[label][1] == name:
            raise InUse(label)
    del draft.towns[name]


def add_claim(draft, label, kind, name, one, other):
    """Keep a claim."""
    draft.check_claim(label, kind, name)
    check_words([one, other], draft.towns[name].letters)
    if len(draft.claims) >= MOST_CLAIMS:
        raise CapacityExceeded(MOST_CLAIMS)
    draft.claims[label] = (kind, name, one, other)


def drop_claim(draft, label):
    """Remove a claim."""
    if label not in draft.claims:
        raise UnknownName(label)
    del draft.claims[label]


ACTIONS = {
    "town": add_town,
    "rule": add_rule,
    "strike": strike_rule,
    "rename": rename_town,
    "drop": drop_town,
    "claim": add_claim,
    "unclaim": drop_claim,
}


def carry_out(draft, command):
    """Apply a command that has a form to a draft."""
    action = ACTIONS[command[0]]
    rest = command[1:]
    action(draft, *rest)
