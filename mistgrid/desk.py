"""A desk, which gives out no release that tells too much beside the elder ones."""

from mistgrid.clues import clues_of
from mistgrid.coarsenings import all_left_out
from mistgrid.errors import MistError, NoDesk, Tells
from mistgrid.releases import release_of
from mistgrid.tables import is_rule, is_table
from mistgrid.worlds import is_roll, may_have_by

RULE = (2, 2, 0)


class Desk:
    """Gives out releases of one table, for those who know all persons of it."""

    def __init__(self, table, names, kinds, *, rule=RULE):
        if not is_table(table) or type(names) is not list or len(names) != len(table[1]):
            raise NoDesk("no table, or not a name for each row")
        roll = _roll_of(table, names, kinds)
        if not is_roll(roll) or not all(secret in kinds for _, secret in table[1]):
            raise NoDesk("no roll, or a secret that is none of the kinds")
        if not is_rule(rule) or rule[1] > len(kinds):
            raise NoDesk("no rule, or more unlike secrets needed than there are kinds")
        self._table = table
        self._rule = rule
        self._roll = roll
        self._releases = []
        self._numbers = {}
        self._clues = {}
        self._times_asked = 0
        self._times_refused = 0
        self._in_ask = False

    def ask(self, levels):
        """The number of the release at the coarsening, given out now or before, or a refusal."""
        self._in_ask = True
        self._times_asked += 1
        try:
            return self._number_of(levels)
        except MistError:
            self._times_refused += 1
            raise
        finally:
            self._in_ask = False

    def given(self):
        """The releases that were given out, a list in their order."""
        return list(self._releases)

    def may_know(self):
        """What each person may have by the releases that were given out, a dict of lists."""
        return may_have_by(self._roll, self._clues)

    def asked(self):
        """How often the desk was asked."""
        return self._times_asked

    def refused(self):
        """How often the desk refused."""
        return self._times_refused

    def is_asking(self):
        """Whether the desk is being asked."""
        return self._in_ask

    def open_now(self):
        """All coarsenings that would be given out now, or were, a list by the order of tuples."""
        counts = all_left_out(self._table, self._rule)
        known = {}
        told = []
        for levels in counts:
            if counts[levels] > self._rule[2]:
                continue
            clues = clues_of(self._roll, release_of(self._table, levels, self._rule))
            # Many coarsenings say the same, and what they say is looked through but once.
            said = tuple(clues)
            if said not in known:
                known[said] = self._told_too_much(clues) is None
            if known[said]:
                told.append(levels)
        return told

    def roll(self):
        """The roll of the table's persons."""
        return self._roll

    def _number_of(self, levels):
        release = release_of(self._table, levels, self._rule)
        if levels in self._numbers:
            return self._numbers[levels]
        clues = clues_of(self._roll, release)
        told = self._told_too_much(clues)
        if told is not None:
            person, secrets = told
            raise Tells(person, tuple(secrets))
        number = len(self._releases)
        self._releases.append(release)
        self._numbers[levels] = number
        for clue in clues:
            self._clues[clue] = True
        return number

    def _told_too_much(self, clues):
        """The first person who, by these clues too, may have too few secrets, and these; or None."""
        fresh = [clue for clue in clues if clue not in self._clues]
        if len(fresh) == 0:
            return None
        known = may_have_by(self._roll, list(self._clues) + fresh)
        for person, secrets in known.items():
            if len(secrets) < self._rule[1]:
                return person, secrets
        return None


def _roll_of(table, names, kinds):
    """The roll that these make, or what is none."""
    ladders, rows = table
    return ladders, tuple([(name, row[0]) for name, row in zip(names, rows)]), kinds
