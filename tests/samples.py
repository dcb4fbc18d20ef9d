"""What several tests ask of: ladders, tables, rolls, releases, and things that are none of these."""

import random
from itertools import product

from mistgrid.ladders import coarse, levels_of
from mistgrid.releases import release_of

PLAIN = ("num", ())
AGES = ("num", (5, 10, 50))
PLACES = (
    "tree",
    (
        ("york", "north"),
        ("hull", "north"),
        ("dover", "south"),
        ("north", "land"),
        ("south", "land"),
        ("land", "*"),
    ),
)
SHORT = ("tree", (("yes", "*"), ("no", "*")))
VALUES = {
    PLAIN: (-1, 0, 7), AGES: (-51, -5, -3, 0, 4, 12, 49), PLACES: ("york", "hull", "dover"),
    SHORT: ("yes", "no"),
}

# Of each coarse key there are rows of one and of several secrets, in no order.
MIXED = (
    (AGES, PLACES, SHORT),
    (
        ((12, "york", "no"), "flu"),
        ((-3, "hull", "no"), "cold"),
        ((-5, "york", "no"), "cold"),
        ((0, "dover", "yes"), "gout"),
        ((14, "hull", "no"), "flu"),
        ((49, "dover", "no"), "flu"),
        ((-3, "york", "yes"), "flu"),
        ((12, "york", "no"), "cold"),
    ),
)
NUMBERS = (
    (AGES,),
    tuple(((age,), secret) for age, secret in zip(
        (7, -1, 9, 3, -11, 55, 8, -7, 60, 4), "a b a a c c b b c a".split())),
)
EMPTY = ((AGES, SHORT), ())
TABLES = (MIXED, NUMBERS, EMPTY)

# Four ladders, of all kinds.
FOUR = (
    (("num", (10,)), SHORT, PLACES, PLAIN),
    (
        ((3, "yes", "york", 1), "cold"),
        ((-3, "no", "hull", 1), "flu"),
        ((7, "yes", "york", 2), "flu"),
        ((12, "no", "dover", 2), "cold"),
        ((19, "no", "dover", 1), "gout"),
        ((-3, "yes", "hull", 1), "cold"),
        ((14, "yes", "york", 2), "flu"),
    ),
)
# As many ladders, levels and rows as there may be.
EIGHT = ("num", (2, 4, 8, 16, 32, 64))
WIDE = (
    (EIGHT, EIGHT, EIGHT, EIGHT),
    tuple(
        ((at * 37 % 101 - 50, at * 53 % 97, at * at % 89 - 40, at * 29 % 113), "abcd"[at * 7 % 11 % 4])
        for at in range(60)
    ),
)


class Rude:
    """Lets nothing be asked of itself."""

    def _refuse(self, *_):
        raise RuntimeError("asked")

    __eq__ = __ne__ = __lt__ = __gt__ = __le__ = __ge__ = _refuse
    __hash__ = __len__ = __iter__ = __getitem__ = __bool__ = __contains__ = _refuse
    __int__ = __index__ = __str__ = __repr__ = _refuse

    @property
    def __class__(self):
        raise RuntimeError("asked")


def _deep(kind, many):
    thing = kind()
    for _ in range(many):
        thing = kind([thing])
    return thing


def anything():
    """Things that are no ladder, no table, no rule and no value of any ladder, new ones each time."""
    return [
        None, True, False, 1.5, 0.0, 2j, "", "*", "num", "NUM", "a b", "Cold", "naive\u00e9",
        "abcdefghijklm", b"", b"num", bytearray(b"a"), [], {}, set(), frozenset(), (), (None,),
        (None, None), (1, 2), ("num",), ("num", ()) + ((),), ["num", ()], ("num", []), ("num", {}),
        ("num", None), ("num", 5), ("num", "5"), (None, ()), (b"num", ()), ("tree", ()),
        ("tree", [("a", "*")]), ("tree", None), ("tree", "a"), ("other", ()), ({}, ()), ([], []),
        ((), ()), ((), (), ()), ((), [], {}), ("a", "b", "c"), {"num": ()}, {"num", "tree"},
        _deep(tuple, 99), _deep(list, 99), ("num", _deep(tuple, 98)), ("tree", _deep(tuple, 98)),
        (_deep(tuple, 98), _deep(tuple, 98)), range(3), iter([]), len, int, type, object(), Rude(),
        (Rude(), ()), ("num", Rude()), ("num", (Rude(),)), ("tree", (Rude(),)),
        ("tree", ((Rude(), "*"),)), ("tree", (("a", Rude()),)), (Rude(), Rude()),
        ((("num", ()),), Rude()), ((("num", ()),), (Rude(),)), ((Rude(),), ()),
        ((("num", ()),), (((Rude(),), "a"),)), ((("num", ()),), (((1,), Rude()),)),
        (Rude(), 1, 1), (1, Rude(), 1), (1, 1, Rude()), lambda: None, NotImplemented, ...,
    ]


def is_among(thing, others):
    """Whether the thing, anything at all, is one of the others, which are plain ones."""
    return any(_is_same(thing, other) for other in others)


def _is_same(thing, other):
    if type(thing) is not type(other):
        return False
    if type(thing) is tuple:
        return len(thing) == len(other) and all(_is_same(*parts) for parts in zip(thing, other))
    return thing == other


def coarsenings_of(table):
    """All coarsenings of the table, in the order of tuples."""
    return list(product(*[range(levels_of(ladder)) for ladder in table[0]]))


# Eight persons in a house: numbers and names that may be known of them, three of them alike.
PERSONS = (
    ("ann", (12, "york")), ("bob", (14, "hull")), ("cid", (-3, "dover")), ("dan", (12, "york")),
    ("eve", (49, "dover")), ("fay", (0, "hull")), ("gus", (-7, "york")), ("hal", (12, "york")),
)
KINDS = ("cold", "flu", "gout")
HOUSE = ((AGES, PLACES), PERSONS, KINDS)
SIX = ("a", "b", "c", "d", "e", "f")


def roll_of(many, kinds=KINDS):
    """A roll of the first of the persons."""
    return ((AGES, PLACES), PERSONS[:many], kinds)


def table_of(roll, world):
    """The table of a roll's persons where each has the secret of the world."""
    ladders, persons, _ = roll
    return ladders, tuple((publics, secret) for (_, publics), secret in zip(persons, world))


def plain_fits(roll, world, releases):
    """Whether the world fits all releases, as [19] tells it."""
    ladders, persons, _ = roll
    for levels, groups in releases:
        keys = [
            tuple(coarse(*part) for part in zip(ladders, publics, levels)) for _, publics in persons
        ]
        for key, secrets in groups:
            have = sorted(secret for other, secret in zip(keys, world) if other == key)
            if tuple(have) != secrets:
                return False
    return True


def worlds_of(roll, releases):
    """All worlds that fit, by going through all there are."""
    _, persons, kinds = roll
    return [
        world for world in product(kinds, repeat=len(persons)) if plain_fits(roll, world, releases)
    ]


def spoiled(release, chance):
    """The release with secrets of one group changed, or one more or one less; it may be without groups."""
    levels, groups = release
    if not groups:
        return release
    at = chance.randrange(len(groups))
    key, secrets = groups[at]
    secrets = list(secrets)
    secrets[chance.randrange(len(secrets))] = chance.choice(KINDS + ("zoster",))
    if chance.random() < 0.4:
        secrets.append(chance.choice(KINDS))
    elif chance.random() < 0.3 and len(secrets) > 1:
        secrets.pop()
    return levels, groups[:at] + ((key, tuple(sorted(secrets))),) + groups[at + 1:]


def chances(many, most):
    """Rolls of one to so many persons, each with some releases that may or may not fit together."""
    chance = random.Random(many)
    for _ in range(many):
        ladders = tuple(chance.choice((AGES, PLACES, PLAIN, SHORT)) for _ in range(chance.randint(1, 3)))
        persons = tuple(
            ("p" + letter, tuple(chance.choice(VALUES[ladder]) for ladder in ladders))
            for letter in "abcdefgh"[:chance.randint(1, most)]
        )
        roll = (ladders, persons, KINDS[:chance.randint(1, 3)])
        table = table_of(roll, [chance.choice(roll[2]) for _ in persons])
        releases = []
        for _ in range(chance.randint(0, 4)):
            levels = tuple(chance.randrange(levels_of(ladder)) for ladder in ladders)
            release = release_of(table, levels, (chance.randint(1, 2), chance.randint(1, 2), 9))
            releases.append(spoiled(release, chance) if chance.random() < 0.15 else release)
        yield roll, releases
