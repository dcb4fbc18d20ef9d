"""What several tests ask of: ladders, tables, and things that are neither."""

from itertools import product

from mistgrid.ladders import levels_of

PLAIN = ("num", ())
AGES = ("num", (5, 10, 50))
PLACES = (
    "tree",
    (
        ("york", "north"),
        ("hull", "north"),
        ("dover", "south"),
        ("north", "land"),
        ("south", "land"),
        ("land", "*"),
    ),
)
SHORT = ("tree", (("yes", "*"), ("no", "*")))

# Of each coarse key there are rows of one and of several secrets, in no order.
MIXED = (
    (AGES, PLACES, SHORT),
    (
        ((12, "york", "no"), "flu"),
        ((-3, "hull", "no"), "cold"),
        ((-5, "york", "no"), "cold"),
        ((0, "dover", "yes"), "gout"),
        ((14, "hull", "no"), "flu"),
        ((49, "dover", "no"), "flu"),
        ((-3, "york", "yes"), "flu"),
        ((12, "york", "no"), "cold"),
    ),
)
NUMBERS = (
    (AGES,),
    tuple(((age,), secret) for age, secret in zip(
        (7, -1, 9, 3, -11, 55, 8, -7, 60, 4), "a b a a c c b b c a".split())),
)
EMPTY = ((AGES, SHORT), ())
TABLES = (MIXED, NUMBERS, EMPTY)

# Four ladders, of all kinds.
FOUR = (
    (("num", (10,)), SHORT, PLACES, PLAIN),
    (
        ((3, "yes", "york", 1), "cold"),
        ((-3, "no", "hull", 1), "flu"),
        ((7, "yes", "york", 2), "flu"),
        ((12, "no", "dover", 2), "cold"),
        ((19, "no", "dover", 1), "gout"),
        ((-3, "yes", "hull", 1), "cold"),
        ((14, "yes", "york", 2), "flu"),
    ),
)
# As many ladders, levels and rows as there may be.
EIGHT = ("num", (2, 4, 8, 16, 32, 64))
WIDE = (
    (EIGHT, EIGHT, EIGHT, EIGHT),
    tuple(
        ((at * 37 % 101 - 50, at * 53 % 97, at * at % 89 - 40, at * 29 % 113), "abcd"[at * 7 % 11 % 4])
        for at in range(60)
    ),
)


class Rude:
    """Lets nothing be asked of itself."""

    def _refuse(self, *_):
        raise RuntimeError("asked")

    __eq__ = __ne__ = __lt__ = __gt__ = __le__ = __ge__ = _refuse
    __hash__ = __len__ = __iter__ = __getitem__ = __bool__ = __contains__ = _refuse
    __int__ = __index__ = __str__ = __repr__ = _refuse

    @property
    def __class__(self):
        raise RuntimeError("asked")


def _deep(kind, many):
    thing = kind()
    for _ in range(many):
        thing = kind([thing])
    return thing


def anything():
    """Things that are no ladder, no table, no rule and no value of any ladder, new ones each time."""
    return [
        None, True, False, 1.5, 0.0, 2j, "", "*", "num", "NUM", "a b", "Cold", "naive\u00e9",
        "abcdefghijklm", b"", b"num", bytearray(b"a"), [], {}, set(), frozenset(), (), (None,),
        (None, None), (1, 2), ("num",), ("num", ()) + ((),), ["num", ()], ("num", []), ("num", {}),
        ("num", None), ("num", 5), ("num", "5"), (None, ()), (b"num", ()), ("tree", ()),
        ("tree", [("a", "*")]), ("tree", None), ("tree", "a"), ("other", ()), ({}, ()), ([], []),
        ((), ()), ((), (), ()), ((), [], {}), ("a", "b", "c"), {"num": ()}, {"num", "tree"},
        _deep(tuple, 99), _deep(list, 99), ("num", _deep(tuple, 98)), ("tree", _deep(tuple, 98)),
        (_deep(tuple, 98), _deep(tuple, 98)), range(3), iter([]), len, int, type, object(), Rude(),
        (Rude(), ()), ("num", Rude()), ("num", (Rude(),)), ("tree", (Rude(),)),
        ("tree", ((Rude(), "*"),)), ("tree", (("a", Rude()),)), (Rude(), Rude()),
        ((("num", ()),), Rude()), ((("num", ()),), (Rude(),)), ((Rude(),), ()),
        ((("num", ()),), (((Rude(),), "a"),)), ((("num", ()),), (((1,), Rude()),)),
        (Rude(), 1, 1), (1, Rude(), 1), (1, 1, Rude()), lambda: None, NotImplemented, ...,
    ]


def coarsenings_of(table):
    """All coarsenings of the table, in the order of tuples."""
    return list(product(*[range(levels_of(ladder)) for ladder in table[0]]))
