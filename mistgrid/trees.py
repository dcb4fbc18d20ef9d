"""Trees, which show that a person has a secret in no world that fits."""

from mistgrid.basics import is_name, is_tuple
from mistgrid.clues import all_clues, any_choice, members_of, parts_of

CLASH = "clash"
SPLIT = "split"


class Grower:
    """Makes trees for one part, all of whose clues no world is right about."""

    def __init__(self, roll, part, places):
        self.persons = roll[1]
        self.kinds = roll[2]
        self.part = part
        # Of each clue its members, and the release and the key where it stands.
        self.clues = [(members, places[members, secrets]) for members, secrets in part.clues]
        self.made = {}

    def tree(self, lacking, left):
        """A tree that holds where so much is lacking and these persons, a tuple, are not settled."""
        # The way that led here is of no matter, so one tree serves all ways.
        if (lacking, left) not in self.made:
            clash = self._clash(lacking, left)
            self.made[lacking, left] = self._split(lacking, left) if clash is None else clash
        return self.made[lacking, left]

    def _clash(self, lacking, left):
        """The first clash there is, or None."""
        names = self.part.names
        for number, (members, (at, key)) in enumerate(self.clues):
            many = len([person for person in members if person in left])
            row = lacking[number * len(names):(number + 1) * len(names)]
            # Most rows have no clash, and their least and greatest numbers tell so soonest.
            if min(row) < 0 or max(row) > many:
                wrong = [name for name, some in zip(names, row) if some < 0 or some > many]
                return CLASH, at, key, wrong[0]
        return None

    def _split(self, lacking, left):
        person = self._narrowest(lacking, left)
        rest = _without(left, person)
        trees = [self.tree(self.part.after(lacking, person, kind), rest) for kind in self.kinds]
        return SPLIT, self.persons[person][0], tuple(trees)

    def _narrowest(self, lacking, left):
        """The person, of those not settled, with the fewest kinds that do not clash at once."""
        widths = []
        for person in left:
            rest = _without(left, person)
            after = [self.part.after(lacking, person, kind) for kind in self.kinds]
            widths.append(len([some for some in after if self._clash(some, rest) is None]))
        return left[widths.index(min(widths))]


class Reader:
    """What is looked up of a roll and releases where a tree is checked."""

    def __init__(self, roll, releases):
        self.kinds = roll[2]
        self.numbers = {name: number for number, (name, _) in enumerate(roll[1])}
        # Of each release, by its keys, the persons with the key and the group's secrets.
        self.groups = []
        for levels, groups in releases:
            members = members_of(roll, levels)
            self.groups.append({key: (members.get(key, ()), secrets) for key, secrets in groups})

    def holds(self, settled, tree):
        """Whether the tree, anything at all, holds where the persons have what is settled, a dict."""
        if not is_tuple(tree, 3, 4) or type(tree[0]) is not str:
            return False
        if tree[0] == CLASH and len(tree) == 4:
            return self._is_clash(settled, tree)
        return tree[0] == SPLIT and len(tree) == 3 and self._is_split(settled, tree)

    def _is_clash(self, settled, tree):
        _, at, key, secret = tree
        if type(at) is not int or not 0 <= at < len(self.groups) or not is_name(secret):
            return False
        # A truth would be found in the place of its number.
        if type(key) is not tuple or not all(type(part) in (int, str) for part in key):
            return False
        if key not in self.groups[at]:
            return False
        members, secrets = self.groups[at][key]
        needed = secrets.count(secret)
        having = len([person for person in members if settled.get(person) == secret])
        left = len([person for person in members if person not in settled])
        return having > needed or having + left < needed

    def _is_split(self, settled, tree):
        _, name, trees = tree
        if type(name) is not str or name not in self.numbers:
            return False
        person = self.numbers[name]
        if person in settled or not is_tuple(trees, len(self.kinds), len(self.kinds)):
            return False
        for kind, part in zip(self.kinds, trees):
            if not self.holds({**settled, person: kind}, part):
                return False
        return True


def world_or_tree(roll, releases, person, secret):
    """A world that fits, in which the person has the secret, or a tree that shows there is none."""
    places = all_clues(roll, releases)
    number = _number_of(roll, person)
    choices = any_choice(roll)
    choices[number] = (secret,)
    world = [secret for _ in choices]
    wrong = []
    for part in parts_of(roll, places):
        layers = part.layers(choices)
        if layers is None:
            wrong.append(part)
        else:
            for settled, kind in part.world(layers):
                world[settled] = kind
    if len(wrong) == 0:
        return "world", tuple(world)
    # One part is enough, and one of few persons makes a small tree.
    least = min(wrong, key=lambda some: len(some.persons))
    return "tree", _tree_of(Grower(roll, least, places), number, secret)


def tree_holds(roll, releases, person, secret, tree):
    """Whether the tree, anything at all, is one that holds for the person and the secret."""
    return Reader(roll, releases).holds({_number_of(roll, person): secret}, tree)


def _number_of(roll, person):
    return [name for name, _ in roll[1]].index(person)


def _tree_of(grower, person, secret):
    """A tree for the grower's part where the person, of this part or not, has the secret."""
    part = grower.part
    lacking = part.lacking()
    if person in part.persons:
        lacking = part.after(lacking, person, secret)
    return grower.tree(lacking, _without(tuple(part.persons), person))


def _without(persons, person):
    return tuple([other for other in persons if other != person])
