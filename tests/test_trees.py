"""Promise [21], and what [2] and [4] say of worlds and trees."""

import copy
import functools
import itertools
import random
import unittest

from mistgrid.ladders import coarse
from mistgrid.releases import release_of
from mistgrid.trees import tree_holds, world_or_tree
from mistgrid.worlds import fits, may_have
from tests.samples import (
    AGES, KINDS, PERSONS, PLACES, PLAIN, SIX, Rude, anything, chances, coarsenings_of, is_among,
    plain_fits, roll_of, table_of, worlds_of,
)

ALL = (4, 3)


@functools.lru_cache(None)
def persons_at(roll, levels, key):
    ladders, persons, _ = roll
    return [name for name, publics in persons
            if tuple(coarse(*part) for part in zip(ladders, publics, levels)) == key]


def plain_holds(roll, releases, settled, tree):
    """Whether a tree of the right form holds for what is settled, as [21] tells it."""
    kinds = roll[2]
    if tree[0] == "clash":
        _, at, key, secret = tree
        levels, groups = releases[at]
        there = persons_at(roll, levels, key)
        needed = dict(groups)[key].count(secret)
        having = [name for name in there if settled.get(name) == secret]
        free = [name for name in there if name not in settled]
        return len(having) > needed or len(having) + len(free) < needed
    _, name, trees = tree
    return name not in settled and all([
        plain_holds(roll, releases, {**settled, name: kind}, part) for kind, part in zip(kinds, trees)
    ])


def places_of(releases):
    return [(at, key) for at, (_, groups) in enumerate(releases) for key, _ in groups]


def all_clashes(releases, secrets):
    return [("clash", at, key, secret) for at, key in places_of(releases) for secret in secrets]


def some_tree(roll, releases, chance, deep):
    """Any tree of the right form."""
    if deep == 0 or chance.random() < 0.3:
        return chance.choice(all_clashes(releases, roll[2]))
    name = chance.choice(roll[1])[0]
    return ("split", name, tuple(some_tree(roll, releases, chance, deep - 1) for _ in roll[2]))


class Telling(unittest.TestCase):
    def told(self, roll, releases, person, secret, worlds):
        at = [name for name, _ in roll[1]].index(person)
        told = world_or_tree(roll, releases, person, secret)
        self.assertIs(type(told), tuple)
        self.assertEqual(len(told), 2)
        kind, thing = told
        if any(world[at] == secret for world in worlds):
            self.assertEqual(kind, "world")
            self.assertIn(thing, worlds)
            self.assertIs(type(thing), tuple)
            self.assertEqual(thing[at], secret)
            self.assertIs(fits(roll, thing, releases), True)
        else:
            self.assertEqual(kind, "tree")
            self.assertIs(plain_holds(roll, releases, {person: secret}, thing), True)
            self.assertIs(tree_holds(roll, releases, person, secret, thing), True)
        return kind, thing

    def test_each_person_and_each_kind(self):
        trees = 0
        for roll, releases in chances(400, 5):
            worlds = worlds_of(roll, releases)
            for name, _ in roll[1]:
                for secret in roll[2]:
                    trees += self.told(roll, releases, name, secret, worlds)[0] == "tree"
        self.assertGreater(trees, 300)

    def test_none_of_the_trees_holds_where_some_world_has_it_so(self):
        for roll, releases in chances(120, 4):
            worlds = worlds_of(roll, releases)
            pairs = [(name, secret) for name, _ in roll[1] for secret in roll[2]]
            told = [world_or_tree(roll, releases, *pair) for pair in pairs]
            trees = [thing for kind, thing in told if kind == "tree"] + all_clashes(releases, roll[2])[:20]
            for name, secret in pairs:
                at = [other for other, _ in roll[1]].index(name)
                if any(world[at] == secret for world in worlds):
                    for tree in trees:
                        self.assertIs(tree_holds(roll, releases, name, secret, tree), False)

    def test_no_releases(self):
        for secret in SIX:
            kind, world = world_or_tree(roll_of(8, SIX), [], "eve", secret)
            self.assertEqual((kind, world[4], len(world)), ("world", secret, 8))
            self.assertTrue(set(world) <= set(SIX))

    def test_eight_persons_in_one_group(self):
        roll = roll_of(8, SIX)
        told = [(ALL, ((("*", "*"), tuple("aabbcdde")),))]
        for name, _ in PERSONS:
            for secret in SIX:
                kind, thing = world_or_tree(roll, told, name, secret)
                if secret == "f":
                    self.assertEqual((kind, thing), ("tree", ("clash", 0, ("*", "*"), "f")))
                else:
                    self.assertEqual((kind, sorted(thing)), ("world", list("aabbcdde")))
                    self.assertEqual(thing[[other for other, _ in PERSONS].index(name)], secret)

    def test_eight_persons_and_no_world(self):
        roll = roll_of(8, SIX)
        for secrets in ("aabbcdd", "aabbcddef", "aaaaaaaa" * 2, "aabbccdz", "zzzzzzzz", "aabbccddeeff"):
            told = [(ALL, ((("*", "*"), tuple(sorted(secrets))),))]
            for name, secret in (("ann", "a"), ("hal", "f")):
                kind, tree = world_or_tree(roll, told, name, secret)
                self.assertEqual(kind, "tree")
                self.assertIs(tree_holds(roll, told, name, secret, tree), True)
                self.assertIs(plain_holds(roll, told, {name: secret}, tree), True)

    def test_eight_persons_and_many_releases(self):
        chance = random.Random(11)
        for kinds in (KINDS, SIX):
            roll = roll_of(8, kinds)
            for rule in ((2, 1, 8), (2, 2, 8), (3, 2, 8), (5, 2, 8)):
                world = tuple(chance.choice(kinds) for _ in PERSONS)
                table = table_of(roll, world)
                releases = [release_of(table, levels, rule) for levels in coarsenings_of(table)[::2]]
                known = may_have(roll, releases)
                for name, _ in PERSONS:
                    for secret in kinds:
                        kind, thing = world_or_tree(roll, releases, name, secret)
                        self.assertEqual(kind, "world" if secret in known[name] else "tree")
                        if kind == "tree":
                            self.assertIs(tree_holds(roll, releases, name, secret, thing), True)
                            self.assertIs(plain_holds(roll, releases, {name: secret}, thing), True)
                        else:
                            self.assertIs(fits(roll, thing, releases), True)

    def test_where_no_world_fits_at_all_each_person_has_trees(self):
        # Of bob and cid nothing is wrong; what is wrong of ann alone is told in few words.
        roll = ((PLAIN,), (("ann", (1,)), ("bob", (2,)), ("cid", (2,))), KINDS)
        releases = [((0,), (((1,), ("flu",)), ((2,), ("cold", "flu")))), ((0,), (((1,), ("cold",)),))]
        for name, _ in roll[1]:
            for secret in KINDS:
                kind, tree = world_or_tree(roll, releases, name, secret)
                self.assertEqual(kind, "tree")
                self.assertIs(plain_holds(roll, releases, {name: secret}, tree), True)
                self.assertIs(tree_holds(roll, releases, name, secret, tree), True)

    def test_a_group_whose_key_no_person_has(self):
        told = [((3, 1), (((100, "north"), ("flu",)),))]
        for name in ("ann", "bob"):
            for secret in KINDS:
                self.assertEqual(
                    world_or_tree(roll_of(2), told, name, secret), ("tree", ("clash", 0, (100, "north"), "flu")))

    def test_what_is_handed_in_stays_as_it_is(self):
        for roll, releases in chances(40, 4):
            before = copy.deepcopy((roll, releases))
            for secret in roll[2]:
                first = world_or_tree(roll, releases, "pa", secret)
                self.assertEqual(world_or_tree(roll, releases, "pa", secret), first)
            self.assertEqual((roll, releases), before)


# Ann, bob and dan are in the north, and of these dan is told of with ann by the other release.
TRIO = ((AGES, PLACES), (PERSONS[0], PERSONS[1], PERSONS[2], PERSONS[3]), ("cold", "flu"))
NORTH = ((4, 1), ((("*", "north"), ("cold", "flu", "flu")), (("*", "south"), ("cold",))))
YORK = ((4, 0), ((("*", "york"), ("flu", "flu")),))
BOTH = [NORTH, YORK]
KEY = ("*", "north")
# For bob with flu: ann and dan must both have flu, too, and these are too many.
RIGHT = ("split", "ann", (
    ("clash", 1, ("*", "york"), "flu"),
    ("split", "dan", (("clash", 1, ("*", "york"), "flu"), ("clash", 0, KEY, "flu"))),
))


class Holding(unittest.TestCase):
    def holds(self, expected, tree, person="bob", secret="flu", releases=BOTH, roll=TRIO):
        self.assertIs(tree_holds(roll, releases, person, secret, tree), expected)

    def test_by_hand(self):
        self.holds(True, RIGHT)
        self.holds(False, RIGHT, secret="cold")
        self.holds(False, RIGHT, person="ann")
        self.holds(False, RIGHT, releases=BOTH[::-1])
        self.holds(False, RIGHT, person="dan")
        self.assertEqual(worlds_of(TRIO, BOTH), [("flu", "cold", "cold", "flu")])

    def test_more_are_settled_than_the_group_has(self):
        cold = ("clash", 0, KEY, "cold")
        self.holds(False, cold, "ann", "cold")
        self.holds(False, cold, "ann", "flu")
        self.holds(True, ("clash", 1, ("*", "york"), "cold"), "ann", "cold")
        self.holds(False, ("clash", 1, ("*", "york"), "cold"), "ann", "flu")
        self.holds(False, ("clash", 1, ("*", "york"), "cold"), "bob", "cold")
        for twice in (("split", "bob", (cold, cold)), ("split", "dan", (cold, cold))):
            self.holds(False, twice, "ann", "cold")
        self.holds(True, ("split", "bob", (cold, ("clash", 1, ("*", "york"), "cold"))), "ann", "cold")

    def test_fewer_are_left_than_the_group_has(self):
        flu = ("clash", 1, ("*", "york"), "flu")
        self.holds(True, flu, "ann", "cold")
        self.holds(True, flu, "dan", "cold")
        self.holds(False, flu, "ann", "flu")
        self.holds(False, flu, "bob", "cold")
        self.holds(False, flu, "bob", "flu")
        self.holds(False, ("clash", 0, KEY, "flu"), "ann", "cold")
        self.holds(True, ("clash", 0, ("*", "south"), "cold"), "cid", "flu")
        self.holds(False, ("clash", 0, ("*", "south"), "cold"), "cid", "cold")

    def test_splits(self):
        flu = ("clash", 1, ("*", "york"), "flu")
        self.holds(False, ("split", "dan", (flu, flu)))
        self.holds(False, ("split", "ann", (flu, flu)))
        self.holds(True, ("split", "cid", (RIGHT, RIGHT)))
        self.holds(True, ("split", "cid", (flu, flu)), "ann", "cold")
        for at in (0, 1):
            for wrong in (("clash", 0, KEY, "cold"), ("clash", 0, ("*", "south"), "flu"), RIGHT):
                trees = RIGHT[2][:at] + (wrong,) + RIGHT[2][at + 1:]
                self.holds(False, ("split", "ann", trees))
        self.holds(False, ("split", "ann", RIGHT[2][::-1]))

    def test_a_person_who_is_settled_already(self):
        self.holds(False, ("split", "bob", (RIGHT, RIGHT)))
        self.holds(False, ("split", "ann", (RIGHT, RIGHT)))
        self.holds(False, ("split", "ann", (RIGHT[2][0], ("split", "ann", RIGHT[2]))))
        flu = ("clash", 1, ("*", "york"), "flu")
        self.holds(False, ("split", "ann", (flu, flu)), "ann", "cold")
        self.holds(False, ("split", "cid", (("split", "cid", (flu, flu)), flu)), "ann", "cold")

    def test_no_person(self):
        flu = ("clash", 1, ("*", "york"), "flu")
        for name in ("eve", "", "Ann", "cold", "anne", "split", 0, 1, True, None, ("ann",), ["ann"], b"ann", Rude()):
            self.holds(False, ("split", name, (flu, flu)), "bob", "cold")
            self.holds(False, ("split", name, (flu, flu)), "ann", "cold")
            self.holds(False, ("split", "cid", (("split", name, (flu, flu)), flu)), "ann", "cold")

    def test_a_tree_too_few_and_too_many(self):
        flu = ("clash", 1, ("*", "york"), "flu")
        for trees in ((), (flu,), (flu,) * 3, (flu,) * 4, [flu, flu], {flu: flu}, flu, None, "ab", 2, (flu, None),
                      (None, flu), ((flu, flu),)):
            self.holds(False, ("split", "cid", trees), "ann", "cold")
            self.holds(False, ("split", "dan", (flu, ("split", "cid", trees))), "ann", "cold")
        self.holds(True, ("split", "cid", (flu,) * 2), "ann", "cold")
        self.holds(False, ("split", "ann", RIGHT[2] + RIGHT[2][1:]))
        self.holds(False, ("split", "ann", RIGHT[2][:1]))

    def test_as_many_trees_as_kinds(self):
        for many in range(1, 7):
            roll = ((PLAIN,), (("ann", (1,)), ("bob", (1,))), SIX[:many])
            releases = [((0,), (((1,), ("a",)),))]
            over = ("clash", 0, (1,), "a")
            for trees in range(8):
                rest = tuple(("clash", 0, (1,), kind) for kind in SIX[1:many])
                told = (over,) + rest + (over,) * 8
                holds = tree_holds(roll, releases, "ann", "a", ("split", "bob", told[:trees]))
                self.assertIs(holds, trees == many)

    def test_a_release_that_is_not_there(self):
        for at in (2, 3, -1, -2, 10 ** 30, -10 ** 30, None, True, False, 1.0, "1", "", (), (1,), [1], Rude()):
            self.holds(False, ("clash", at, ("*", "york"), "flu"), "ann", "cold")
            self.holds(False, ("split", "cid", (("clash", at, ("*", "york"), "flu"),) * 2), "ann", "cold")
        self.holds(True, ("clash", 1, ("*", "york"), "flu"), "ann", "cold")
        self.holds(False, ("clash", 0, ("*", "york"), "flu"), "ann", "cold")
        self.holds(False, ("clash", 0, ("*", "york"), "flu"), "ann", "cold", [])
        self.holds(True, ("clash", 0, ("*", "york"), "flu"), "ann", "cold", [YORK])

    def test_truths_in_the_place_of_their_numbers(self):
        roll = ((PLAIN,), (("ann", (1,)), ("bob", (0,))), KINDS)
        releases = [((0,), (((0,), ("flu",)), ((1,), ("flu",)))), ((0,), (((1,), ("flu",)),))]
        for at in (0, 1):
            self.holds(True, ("clash", at, (1,), "flu"), "ann", "cold", releases, roll)
            self.holds(False, ("clash", bool(at), (1,), "flu"), "ann", "cold", releases, roll)
            self.holds(False, ("clash", at, (True,), "flu"), "ann", "cold", releases, roll)
            self.holds(False, ("clash", at, (1.0,), "flu"), "ann", "cold", releases, roll)
        self.holds(True, ("clash", 0, (0,), "flu"), "bob", "cold", releases, roll)
        self.holds(False, ("clash", 0, (False,), "flu"), "bob", "cold", releases, roll)

    def test_a_key_that_is_not_there(self):
        for key in (("*", "south"), ("*", "hull"), ("*",), ("*", "york", "*"), ("york", "*"), (), "york", None, 0,
                    ["*", "york"], ("*", ["york"]), ("*", ("york",)), ("*", None), (Rude(), "york"), Rude(),
                    ("*", True), {"*": "york"}, (("*", "york"),), ([], []), ({}, "york")):
            self.holds(False, ("clash", 1, key, "flu"), "ann", "cold")
            self.holds(False, ("clash", 1, key, "cold"), "ann", "cold")

    def test_a_secret_that_is_none_of_the_kinds(self):
        for secret in ("gout", "zoster", "ann", "abcdefghijklm", "", "Flu", "a b", 0, None, True, ("flu",), ["flu"],
                       b"flu", Rude()):
            for at, key in places_of(BOTH):
                for settled in ("ann", "bob", "cid", "dan"):
                    for have in ("cold", "flu"):
                        self.holds(False, ("clash", at, key, secret), settled, have)
        # A group may have what nobody can have, and a clash may name it.
        told = [((4, 0), ((("*", "york"), ("zoster", "zoster")),))]
        self.holds(True, ("clash", 0, ("*", "york"), "zoster"), "ann", "cold", told)
        self.holds(False, ("clash", 0, ("*", "york"), "zoster"), "bob", "cold", told)
        self.holds(False, ("clash", 0, ("*", "york"), "gout"), "ann", "cold", told)

    def test_a_group_whose_key_no_person_has(self):
        told = [((3, 1), (((100, "north"), ("flu",)),))]
        self.holds(True, ("clash", 0, (100, "north"), "flu"), "ann", "flu", told)
        self.holds(False, ("clash", 0, (100, "north"), "cold"), "ann", "cold", told)

    def test_first_words_and_lengths(self):
        clash = ("clash", 1, ("*", "york"), "flu")
        for tree in (
            (), ("clash",), clash[:2], clash[:3], clash + (0,), clash[1:], ("Clash",) + clash[1:],
            ("split",) + clash[1:], ("",) + clash[1:], (None,) + clash[1:], (0,) + clash[1:],
            (clash,), (clash, clash), list(clash),
            ("split",), ("split", "cid"), ("split", "cid", (clash, clash), ()), ("clash", "cid", (clash, clash)),
            ("Split", "cid", (clash, clash)), ["split", "cid", (clash, clash)], ("split", (clash, clash), "cid"),
            ("split", "cid", clash, clash), ("tree", clash), (b"clash",) + clash[1:], (("clash",),) + clash[1:],
            ("world", ("flu",)), (True,) + clash[1:], (Rude(),) + clash[1:], (Rude(), "cid", (clash, clash)),
        ):
            self.holds(False, tree, "ann", "cold")
            self.holds(False, ("split", "cid", (clash, tree)), "ann", "cold")
            self.holds(False, ("split", "cid", (tree, clash)), "ann", "cold")
        self.holds(True, clash, "ann", "cold")

    def test_of_anything(self):
        clash = ("clash", 1, ("*", "york"), "flu")
        places = (
            (lambda thing: thing, ()),
            (lambda thing: (thing,), ()),
            (lambda thing: (thing, thing, thing), ()),
            (lambda thing: (thing, thing, thing, thing), ()),
            (lambda thing: (thing, 1, ("*", "york"), "flu"), ()),
            (lambda thing: ("clash", thing, ("*", "york"), "flu"), (1,)),
            (lambda thing: ("clash", 1, thing, "flu"), ()),
            (lambda thing: ("clash", 1, (thing, "york"), "flu"), ("*",)),
            (lambda thing: ("clash", 1, ("*", thing), "flu"), ()),
            (lambda thing: ("clash", 1, ("*", "york"), thing), ()),
            (lambda thing: ("split", thing, (clash, clash)), ("cid", "dan", "bob")),
            (lambda thing: ("split", "cid", thing), ()),
            (lambda thing: ("split", "cid", (thing, clash)), ()),
            (lambda thing: ("split", "cid", (clash, thing)), ()),
            (lambda thing: ("split", "cid", (clash, ("split", thing, (clash, clash)))), ("dan", "bob")),
            (lambda thing: ("split", "cid", (clash, ("split", "dan", thing))), ()),
            (lambda thing: ("split", "cid", (clash, ("split", "dan", (clash, thing)))), ()),
            (lambda thing: ("split", "cid", (clash, ("clash", thing, ("*", "york"), "flu"))), (1,)),
            (lambda thing: ("split", "cid", (clash, ("clash", 1, ("*", "york"), thing))), ()),
        )
        for place, rights in places:
            for thing in anything() + [0, 1, 2, "ann", "bob", "cid", "dan", ["ann"]]:
                self.holds(is_among(thing, rights), place(thing), "ann", "cold")

    def test_trees_a_hundred_deep(self):
        clash = ("clash", 1, ("*", "york"), "flu")
        for person, secret in (("ann", "cold"), ("bob", "flu")):
            for names in (("cid",), ("cid", "dan"), ("ann", "bob", "cid", "dan"), ("eve",)):
                deep = clash
                for at in range(49):
                    deep = ("split", names[at % len(names)], (clash, deep))
                self.holds(False, deep, person, secret)
                self.holds(False, ("split", "cid", (deep, deep)), person, secret)
        for whole in (tuple, list):
            deep = whole()
            for _ in range(99):
                deep = whole([deep])
            self.holds(False, deep)
            self.holds(False, ("split", "ann", deep))
            self.holds(False, ("clash", 0, deep, "flu"))
            self.holds(False, ("clash", deep, KEY, "flu"))

    def test_trees_as_deep_as_there_are_persons(self):
        roll = ((PLAIN,), tuple((name, (1,)) for name, _ in PERSONS), ("a", "b"))
        releases = [((0,), (((1,), ("a",) * 4 + ("b",) * 4),)), ((0,), (((1,), ("a",) * 3 + ("b",) * 5),))]

        def grown(settled, names):
            for tree in all_clashes(releases, ("a", "b")):
                if plain_holds(roll, releases, settled, tree):
                    return tree
            parts = tuple(grown({**settled, names[0]: kind}, names[1:]) for kind in ("a", "b"))
            return ("split", names[0], parts)

        tree = grown({"ann": "a"}, [name for name, _ in PERSONS[1:]])
        self.holds(True, tree, "ann", "a", releases, roll)
        self.holds(False, tree, "ann", "a", releases[:1], roll)
        self.holds(False, tree, "bob", "a", releases, roll)

    def test_any_trees_of_the_right_form(self):
        chance = random.Random(23)
        right = 0
        for roll, releases in chances(250, 4):
            if not places_of(releases):
                continue
            for _ in range(30):
                name, secret = chance.choice(roll[1])[0], chance.choice(roll[2])
                tree = some_tree(roll, releases, chance, 2)
                holds = plain_holds(roll, releases, {name: secret}, tree)
                self.assertIs(tree_holds(roll, releases, name, secret, tree), holds)
                right += holds and tree[0] == "split"
                if holds:
                    at = [other for other, _ in roll[1]].index(name)
                    for world in itertools.product(roll[2], repeat=len(roll[1])):
                        self.assertFalse(world[at] == secret and plain_fits(roll, world, releases))
        self.assertGreater(right, 20)

    def test_what_is_handed_in_stays_as_it_is(self):
        tree = ["split", ["ann"], [["clash", 0]]]
        releases = copy.deepcopy(BOTH)
        for thing in (tree, ("split", "ann", (RIGHT[2][0], tree))):
            before = copy.deepcopy(thing)
            self.holds(False, thing, releases=releases)
            self.assertEqual(thing, before)
        self.assertEqual(releases, BOTH)


class Asked(unittest.TestCase):
    def test_arguments_by_the_names_of_the_interface(self):
        asked = {"roll": TRIO, "releases": BOTH, "person": "bob"}
        kind, tree = world_or_tree(secret="flu", **asked)
        self.assertEqual(kind, "tree")
        self.assertIs(tree_holds(tree=tree, secret="flu", **asked), True)
        self.assertIs(tree_holds(secret="cold", tree=tree, **asked), False)
        self.assertEqual(world_or_tree(secret="cold", **asked), ("world", ("flu", "cold", "cold", "flu")))


if __name__ == "__main__":
    unittest.main()
