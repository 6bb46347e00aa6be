"""Atlases, which keep towns and claims with undo and redo, and the verdicts that they were asked for."""

from roundswap.checks import is_number_from
from roundswap.commands import Draft, carry_out, check_form
from roundswap.errors import Broken, InvalidLimit, NothingLeft, UnknownName
from roundswap.verdicts import decide, is_even
from roundswap.words import check_words


class Atlas:
    """Towns by names and claims by labels, changed by batches of commands."""

    MOST = 12

    def __init__(self, *, limit=8):
        if not is_number_from(limit, 1, Atlas.MOST):
            raise InvalidLimit(limit)
        self.most_towns = limit
        self.towns = {}
        self.claims = {}
        self.past = []
        self.future = []
        self.verdicts = {}
        self.made = 0
        self.working = False

    @property
    def limit(self):
        """The greatest number of towns."""
        return self.most_towns

    @limit.setter
    def limit(self, value):
        if not is_number_from(value, 1, Atlas.MOST) or value < len(self.towns):
            raise InvalidLimit(value)
        self.most_towns = value

    def change_limit(self, limit):
        """Assign the limit."""
        self.limit = limit

    @property
    def busy(self):
        """Whether a batch is being applied."""
        return self.working

    @property
    def decided(self):
        """The number of verdicts that were made."""
        return self.made

    def apply(self, *commands):
        """Apply commands as a batch, which is one step."""
        self.working = True
        try:
            draft = self.drafted(commands)
            self.guard(draft)
            self.past.append((self.towns, self.claims))
            self.future = []
            self.turn_to(draft.towns, draft.claims)
        finally:
            self.working = False

    def drafted(self, commands):
        """Return a draft to which all commands are applied."""
        for command in commands:
            check_form(command)
        draft = Draft(self.towns, self.claims, self.most_towns)
        for command in commands:
            carry_out(draft, command)
        return draft

    def guard(self, draft):
        """Raise an error if a draft must not become a step; here every draft may."""

    def turn_to(self, towns, claims):
        """Take other towns and claims, and discard the verdicts about towns that are not what they were."""
        before = self.towns
        self.towns = towns
        self.claims = claims
        self.verdicts = {key: verdict for key, verdict in self.verdicts.items()
                         if key[0] in towns and towns[key[0]] == before[key[0]]}

    def undo(self):
        """Undo the last step."""
        if not self.past:
            raise NothingLeft()
        self.future.append((self.towns, self.claims))
        towns, claims = self.past.pop()
        self.turn_to(towns, claims)

    def redo(self):
        """Redo the step that was undone last."""
        if not self.future:
            raise NothingLeft()
        self.past.append((self.towns, self.claims))
        towns, claims = self.future.pop()
        self.turn_to(towns, claims)

    def history(self):
        """Return the numbers of steps that can be undone and redone."""
        return len(self.past), len(self.future)

    def names(self):
        """Return the ascending list of the names."""
        return sorted(self.towns)

    def labels(self):
        """Return the ascending list of the labels."""
        return sorted(self.claims)

    def town_of(self, name):
        """Return the town with a name."""
        if name not in self.towns:
            raise UnknownName(name)
        return self.towns[name]

    def claim_of(self, label):
        """Return the claim with a label."""
        if label not in self.claims:
            raise UnknownName(label)
        return self.claims[label]

    def verdict(self, name, one, other):
        """Return the verdict about two words of a town, and keep it."""
        town = self.town_of(name)
        check_words([one, other], town.letters)
        key = (name, one, other)
        if key not in self.verdicts:
            self.verdicts[key] = decide(town, one, other)
            self.made = self.made + 1
        return self.verdicts[key]

    def holds(self, label):
        """Return whether a claim holds."""
        kind, name, one, other = self.claim_of(label)
        return bool(self.verdict(name, one, other)) == (kind == "even")

    def broken(self):
        """Return the ascending list of the labels of all claims that do not hold."""
        return [label for label in self.labels() if not self.holds(label)]

    def kept(self):
        """Return the ascending list of (name, one, other) of the kept verdicts."""
        return sorted(self.verdicts)

    def twin(self):
        """Return an independent atlas with everything that this one has."""
        twin = Atlas(limit=self.most_towns)
        self.copy_to(twin)
        return twin

    def copy_to(self, other):
        """Give everything that this atlas has to a new one."""
        other.towns = dict(self.towns)
        other.claims = dict(self.claims)
        other.past = list(self.past)
        other.future = list(self.future)
        other.verdicts = {key: verdict for key, verdict in self.verdicts.items()}
        other.made = self.made

    def __len__(self):
        return len(self.towns)

    def __contains__(self, x):
        return x in self.towns

    def __eq__(self, other):
        return isinstance(other, Atlas) and self.towns == other.towns and self.claims == other.claims


class GuardedAtlas(Atlas):
    """An atlas that takes no batch behind which a claim does not hold."""

    def guard(self, draft):
        """Raise Broken with the first label whose claim does not hold."""
        for label in sorted(draft.claims):
            kind, name, one, other = draft.claims[label]
            if is_even(draft.towns[name], one, other) != (kind == "even"):
                raise Broken(label)

    def twin(self):
        """Return an independent guarded atlas with everything that this one has."""
        twin = GuardedAtlas(limit=self.most_towns)
        self.copy_to(twin)
        return twin
