"""What releases say of the persons of a roll, and what these may have by it.

A clue is a tuple (members, secrets): the persons with these numbers have, in some order, just these
secrets. Persons of whom clues speak together make a part. Parts are looked through each by itself,
as what is so in one of them changes nothing in any other one.
"""

from mistgrid.tables import groups_of


class Part:
    """Some persons, and the clues that speak of these and of no others.

    What is lacking is a tuple of numbers: of each clue, and in it of each of the names, how many of
    its persons are still to be settled to have it.
    """

    def __init__(self, persons, clues, kinds):
        self.persons = persons
        self.clues = clues
        # A clue may speak of secrets, too, that no person can have.
        more = sorted({name for _, secrets in clues for name in secrets} - set(kinds))
        self.names = list(kinds) + more
        self.spots = {}
        width = len(self.names)
        for person in persons:
            rows = [at * width for at, clue in enumerate(clues) if person in clue[0]]
            for place, kind in enumerate(kinds):
                self.spots[person, kind] = [row + place for row in rows]

    def lacking(self):
        """What is lacking where no person is settled."""
        return tuple([secrets.count(name) for _, secrets in self.clues for name in self.names])

    def is_lacking(self, lacking, person, kind):
        """Whether each clue about the person has room for one more with the kind."""
        return all([lacking[spot] > 0 for spot in self.spots[person, kind]])

    def after(self, lacking, person, kind):
        """What is lacking where the person is settled to have the kind, too."""
        rest = list(lacking)
        for spot in self.spots[person, kind]:
            rest[spot] -= 1
        return tuple(rest)

    def layers(self, choices):
        """All ways to settle one person after another, each with one of the own choices.

        Of no person settled, of one, and so on, a dict of what may then be lacking: of each such the
        steps that lead to it, (what was lacking, the kind). None where no world is right.
        """
        here = {self.lacking(): []}
        layers = [here]
        for person in self.persons:
            there = {}
            for lacking in here:
                for kind in choices[person]:
                    if self.is_lacking(lacking, person, kind):
                        there.setdefault(self.after(lacking, person, kind), []).append((lacking, kind))
            here = there
            layers.append(here)
        return layers if self._end() in here else None

    def world(self, layers):
        """One way through the layers, a list of (person, kind)."""
        lacking = self._end()
        told = []
        for person, layer in self._backwards(layers):
            lacking, kind = layer[lacking][0]
            told.append((person, kind))
        return told

    def found(self, layers):
        """What the persons have on all ways through the layers, a list of (person, kinds by letters)."""
        right = {self._end(): True}
        told = []
        for person, layer in self._backwards(layers):
            steps = [step for lacking in right for step in layer[lacking]]
            told.append((person, sorted({kind for _, kind in steps})))
            right = {lacking: True for lacking, _ in steps}
        return told

    def _end(self):
        return tuple([0 for _ in self.clues for _ in self.names])

    def _backwards(self, layers):
        return list(reversed(list(zip(self.persons, layers[1:]))))


def members_of(roll, levels):
    """The numbers of the persons that have each key at the levels, a dict."""
    ladders, persons, _ = roll
    rows = tuple([(publics, name) for name, publics in persons])
    return {key: numbers for key, numbers in groups_of((ladders, rows), levels)}


def clues_of(roll, release):
    """The clues that the groups of the release are, in their order."""
    levels, groups = release
    members = members_of(roll, levels)
    return [(members.get(key, ()), secrets) for key, secrets in groups]


def all_clues(roll, releases):
    """The clues of all releases, a dict: of each one the place where it is first, (release, key)."""
    told = {}
    for at, release in enumerate(releases):
        for clue, group in zip(clues_of(roll, release), release[1]):
            told.setdefault(clue, (at, group[0]))
    return told


def parts_of(roll, clues):
    """The parts that the clues make of the persons; a clue about nobody makes one without persons."""
    _, persons, kinds = roll
    parts = [([person], []) for person in range(len(persons))]
    for clue in clues:
        joined, spoken = [], [clue]
        apart = []
        for part in parts:
            if any([person in clue[0] for person in part[0]]):
                joined.extend(part[0])
                spoken.extend(part[1])
            else:
                apart.append(part)
        parts = apart + [(joined, spoken)]
    return [Part(sorted(joined), spoken, kinds) for joined, spoken in parts]


def any_choice(roll):
    """Of each person that each of the kinds may be."""
    _, persons, kinds = roll
    return [kinds for _ in persons]
