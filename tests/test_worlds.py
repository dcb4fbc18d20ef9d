"""Promises [19], [20], and what [2], [3] and [4] say of rolls and worlds."""

import copy
import itertools
import random
import unittest

from mistgrid.errors import MistError, NoDesk, NoLevel, NoText, NoWorld, Tells, Unsafe
from mistgrid.releases import release_of
from mistgrid.worlds import fits, is_roll, may_have
from tests.samples import (
    AGES, HOUSE, KINDS, PERSONS, PLACES, PLAIN, SHORT, SIX, Rude, anything, chances, coarsenings_of,
    is_among, plain_fits, roll_of, table_of, worlds_of,
)

LADDERS = (AGES, PLACES)
WORLD = ("cold", "flu", "cold", "gout", "flu", "cold", "flu", "gout")
ALL = (4, 3)
LETTERS = "abcdefghijklmnopqrstuvwxyz"


class Rolls(unittest.TestCase):
    def no_roll(self, thing):
        self.assertIs(is_roll(thing), False)

    def test_one_to_eight_persons(self):
        for many in range(1, 9):
            self.assertIs(is_roll(roll_of(many)), True)
        for many in (0, 9, 10, 60):
            persons = tuple(("p" + LETTERS[at // 26] + LETTERS[at % 26], (1, "york")) for at in range(many))
            self.no_roll((LADDERS, persons, KINDS))

    def test_unlike_names(self):
        one, other = PERSONS[:2]
        for persons in ((one, one), (one, other, one), (one, ("ann", (14, "hull"))),
                        (other, one, ("ann", (14, "hull")))):
            self.no_roll((LADDERS, persons, KINDS))
        self.assertIs(is_roll((LADDERS, (one, ("anne", one[1])), KINDS)), True)

    def test_persons_in_any_order(self):
        self.assertIs(is_roll((LADDERS, PERSONS[::-1], KINDS)), True)

    def test_names(self):
        for name in ("a", "abcdefghijkl", "row", "cold"):
            self.assertIs(is_roll((LADDERS, ((name, (1, "york")),), KINDS)), True)
            self.assertIs(is_roll((LADDERS, PERSONS[:1], (name,))), True)
        for name in ("", "A", "abcdefghijklm", "a b", "a1", "*", "5", b"a", 5, None, True, (), ("a",), ["a"], Rude()):
            self.no_roll((LADDERS, ((name, (1, "york")),), KINDS))
            self.no_roll((LADDERS, PERSONS + ((name, (1, "york")),), KINDS))
            self.no_roll((LADDERS, PERSONS[:1], (name,)))
            self.no_roll((LADDERS, PERSONS[:1], ("a", name)))

    def test_publics(self):
        for publics in ((), (1,), ("york",), (1, "york", 1), ("york", 1), (1, "north"), (1, "*"), ("*", "york"),
                        (True, "york"), (1, "leeds"), (1000000000, "york"), [1, "york"], {1: "york"}, None, 1,
                        "york", (1, None), (None, "york"), (Rude(), "york"), (1, Rude()), (1.0, "york")):
            self.no_roll((LADDERS, (("ann", publics),), KINDS))
            self.no_roll((LADDERS, PERSONS[:7] + (("hal", publics),), KINDS))
        for publics in ((0, "york"), (-999999999, "dover"), (999999999, "hull")):
            self.assertIs(is_roll((LADDERS, (("ann", publics),), KINDS)), True)

    def test_publics_of_another_ladder(self):
        self.no_roll(((PLACES, AGES), PERSONS, KINDS))
        self.no_roll(((AGES, SHORT), PERSONS, KINDS))
        self.no_roll(((AGES,), PERSONS, KINDS))
        self.no_roll(((AGES, PLACES, PLAIN), PERSONS, KINDS))

    def test_kinds(self):
        for many in range(1, 7):
            self.assertIs(is_roll((LADDERS, PERSONS, SIX[:many])), True)
        for kinds in ((), SIX + ("g",), SIX + ("g", "h"), ("a", "a"), ("a", "a", "b"), ("a", "b", "b"), ("b", "a"),
                      ("a", "c", "b"), SIX[::-1], list(KINDS), set(KINDS), {"a": True}, "ab", None, 5, True):
            self.no_roll((LADDERS, PERSONS, kinds))

    def test_ladders(self):
        for many in range(1, 5):
            self.assertIs(is_roll(((SHORT,) * many, (("ann", ("yes",) * many),), KINDS)), True)
        for many in (0, 5, 6):
            self.no_roll(((SHORT,) * many, (("ann", ("yes",) * many),), KINDS))
        for ladders in (list(LADDERS), (AGES, list(PLACES)), (AGES, None), AGES, PLACES, None, (),
                        (AGES, ("num", (1,))), {AGES: True}, (Rude(), AGES)):
            self.no_roll((ladders, PERSONS, KINDS))

    def test_tuples_too_short_and_too_long_and_lists(self):
        ladders, persons, kinds = HOUSE
        ann = PERSONS[0]
        for thing in ((), (ladders,), (ladders, persons), HOUSE + ((),), HOUSE + (kinds,), list(HOUSE),
                      (ladders, list(persons), kinds), (ladders, kinds, persons), (persons, ladders, kinds),
                      (ladders, dict(persons), kinds)):
            self.no_roll(thing)
        for person in ((), ("ann",), ann + ((),), list(ann), ("ann", list(ann[1])), ann[::-1], "ann", ann[1], None):
            self.no_roll((ladders, (person,), kinds))
            self.no_roll((ladders, PERSONS[1:] + (person,), kinds))
        self.no_roll((ladders, ann, kinds))

    def test_of_anything(self):
        ladders, persons, kinds = HOUSE
        # Each place with what is right there of all that is put into it.
        places = (
            (lambda thing: thing, ()),
            (lambda thing: (thing,), ()),
            (lambda thing: (thing, thing, thing), ()),
            (lambda thing: (ladders, persons, kinds, thing), ()),
            (lambda thing: (thing, persons, kinds), ()),
            (lambda thing: ((thing,), persons, kinds), ()),
            (lambda thing: ((AGES, thing), persons, kinds), ()),
            (lambda thing: ((thing, PLACES), persons, kinds), (("num", ()),)),
            (lambda thing: (ladders, thing, kinds), ()),
            (lambda thing: (ladders, (thing,), kinds), ()),
            (lambda thing: (ladders, persons[:7] + (thing,), kinds), ()),
            (lambda thing: (ladders, ((thing, (5, "york")),), kinds), ("num",)),
            (lambda thing: (ladders, (("ann", thing),), kinds), ()),
            (lambda thing: (ladders, (("ann", (thing, "york")),), kinds), ()),
            (lambda thing: (ladders, (("ann", (5, thing)),), kinds), ()),
            (lambda thing: (ladders, persons, thing), (("num",), ("a", "b", "c"))),
            (lambda thing: (ladders, persons, (thing,)), ("num",)),
            (lambda thing: (ladders, persons, (thing, "z")), ("num",)),
            (lambda thing: (ladders, persons, (thing, thing)), ()),
        )
        for place, rights in places:
            for thing in anything():
                self.assertIs(is_roll(place(thing)), is_among(thing, rights))


class Fitting(unittest.TestCase):
    ONE = release_of(table_of(HOUSE, WORLD), (4, 1), (2, 1, 0))
    OTHER = release_of(table_of(HOUSE, WORLD), (2, 3), (2, 2, 8))

    def fits(self, expected, world, releases, roll=HOUSE):
        before = copy.copy(releases)
        self.assertIs(fits(roll, world, releases), expected)
        self.assertEqual(len(before), len(releases))
        for one, other in zip(before, releases):
            self.assertIs(one, other)

    def test_no_releases(self):
        for world in itertools.product(KINDS, repeat=3):
            self.fits(True, world, [], roll_of(3))
        self.fits(True, WORLD, [])

    def test_releases_by_hand(self):
        self.assertEqual(self.ONE, ((4, 1), (
            (("*", "north"), ("cold", "cold", "flu", "flu", "gout", "gout")),
            (("*", "south"), ("cold", "flu")),
        )))
        self.fits(True, WORLD, [self.ONE])
        self.fits(True, WORLD, [self.OTHER])
        self.fits(True, WORLD, [self.ONE, self.OTHER, self.ONE])
        changed = ("flu", "cold") + WORLD[2:]
        self.fits(True, changed, [self.ONE])
        self.fits(True, changed, [self.OTHER])
        moved = ("cold", "cold", "flu") + WORLD[3:]
        self.fits(False, moved, [self.ONE])
        self.fits(False, moved, [self.ONE, self.OTHER])
        self.fits(False, moved, [self.OTHER, self.ONE])

    def test_one_that_fits_beside_one_that_does_not(self):
        for world in itertools.product(KINDS, repeat=3):
            right = release_of(table_of(roll_of(3), world), ALL, (1, 1, 0))
            for other in itertools.product(KINDS, repeat=3):
                wrong = release_of(table_of(roll_of(3), other), ALL, (1, 1, 0))
                same = sorted(world) == sorted(other)
                self.fits(same, world, [wrong], roll_of(3))
                self.fits(same, world, [right, wrong], roll_of(3))
                self.fits(same, world, [wrong, right], roll_of(3))

    def test_a_group_left_out_says_nothing(self):
        self.fits(True, WORLD, [((4, 1), ())])
        self.fits(True, WORLD, [((4, 1), self.ONE[1][:1])])
        self.fits(True, WORLD, [((4, 1), self.ONE[1][1:])])
        south = [((4, 1), self.ONE[1][1:])]
        for secret in KINDS:
            self.fits(True, (secret,) + WORLD[1:], south)
        for secret in KINDS:
            self.fits(secret == "cold", WORLD[:2] + (secret,) + WORLD[3:], south)

    def test_a_group_whose_key_no_person_has(self):
        for key in ((100, "north"), (0, "south"), (-50, "north")):
            self.fits(False, ("flu",), [((3, 1), ((key, ("flu",)),))], roll_of(1))
        self.fits(True, ("flu",), [((3, 1), (((0, "north"), ("flu",)),))], roll_of(1))

    def test_more_and_fewer_secrets_than_persons(self):
        for secrets, told in ((("cold",), False), (("cold", "flu"), True), (("cold", "flu", "flu"), False),
                              (("cold", "cold", "flu"), False), (("flu", "flu"), False)):
            self.fits(told, ("flu", "cold"), [(ALL, ((("*", "*"), secrets),))], roll_of(2))

    def test_secrets_that_are_none_of_the_kinds(self):
        self.fits(False, ("flu", "cold"), [(ALL, ((("*", "*"), ("cold", "zoster")),))], roll_of(2))

    def test_something_that_is_no_release_in_the_list(self):
        for thing in anything() + [
            list(self.ONE), (self.ONE,), self.ONE + ((),), ((4, 1), list(self.ONE[1])), ((4, 1), self.ONE[1][::-1]),
            ((4, 4), ()), ((4,), ()), ((4, 1), ((("*", "york"), ("flu",)),)), ((4, 1), ((("*", "north"), ()),)),
            ((4, True), self.ONE[1]), ((4, 1), self.ONE[1] + self.ONE[1][1:]),
            ((4, 1), ((("*", "south"), ("flu", "cold")),)),
        ]:
            self.fits(False, WORLD, [thing])
            self.fits(False, WORLD, [self.ONE, thing])
            self.fits(False, WORLD, [thing, self.OTHER])
        self.fits(False, ("cold", "flu"), [((4, 3), ((("*", "*"), ("flu", "cold")),))], roll_of(2))

    def test_what_is_handed_in_stays_as_it_is(self):
        releases = [self.ONE, [list(self.ONE), []], {"a": [1]}, self.OTHER]
        before = copy.deepcopy(releases)
        self.assertIs(fits(HOUSE, WORLD, releases), False)
        self.assertEqual(releases, before)

    def test_all_worlds(self):
        for roll, releases in chances(120, 4):
            for world in itertools.product(roll[2], repeat=len(roll[1])):
                self.fits(plain_fits(roll, world, releases), world, releases, roll)


def plainly(roll, releases):
    """What each person may have, as [20] tells it, or None."""
    worlds = worlds_of(roll, releases)
    if not worlds:
        return None
    return {name: sorted({world[at] for world in worlds}) for at, (name, _) in enumerate(roll[1])}


class Having(unittest.TestCase):
    def no_world(self, roll, releases):
        before = copy.deepcopy(releases)
        with self.assertRaises(NoWorld) as caught:
            may_have(roll, releases)
        self.assertIsInstance(caught.exception, MistError)
        self.assertIsInstance(caught.exception, ValueError)
        self.assertNotIsInstance(caught.exception, (NoLevel, NoText, NoDesk, Unsafe, Tells))
        self.assertEqual(releases, before)

    def told(self, roll, releases, expected):
        told = may_have(roll, releases)
        self.assertEqual(told, expected)
        self.assertEqual(list(told), [name for name, _ in roll[1]])
        self.assertIs(type(told), dict)
        for secrets in told.values():
            self.assertIs(type(secrets), list)

    def test_going_through_all_worlds(self):
        refused = 0
        for roll, releases in chances(500, 5):
            expected = plainly(roll, releases)
            if expected is None:
                self.no_world(roll, releases)
                refused += 1
            else:
                self.told(roll, releases, expected)
        self.assertGreater(refused, 20)

    def test_rolls_of_one_to_five_persons_and_all_their_releases(self):
        chance = random.Random(7)
        for many in range(1, 6):
            roll = roll_of(many)
            for _ in range(6):
                table = table_of(roll, [chance.choice(KINDS) for _ in range(many)])
                for levels in coarsenings_of(table)[::2]:
                    releases = [release_of(table, levels, (2, 2, 8)), release_of(table, (4, 1), (2, 1, 8))]
                    self.told(roll, releases, plainly(roll, releases))
                    self.told(roll, releases[:1], plainly(roll, releases[:1]))

    def test_by_hand(self):
        # The three that are alike in all have cold, cold and gout; bob is found by two releases together.
        alike = ((0, 0), (((12, "york"), ("cold", "cold", "gout")),))
        self.told(HOUSE, [alike], {
            "ann": ["cold", "gout"], "bob": list(KINDS), "cid": list(KINDS), "dan": ["cold", "gout"],
            "eve": list(KINDS), "fay": list(KINDS), "gus": list(KINDS), "hal": ["cold", "gout"],
        })
        tens = ((2, 1), (((10, "north"), ("cold", "cold", "flu", "gout")),))
        self.assertEqual(may_have(HOUSE, [tens])["bob"], ["cold", "flu", "gout"])
        self.assertEqual(may_have(HOUSE, [tens, alike])["bob"], ["flu"])
        self.assertEqual(may_have(HOUSE, [tens, alike])["hal"], ["cold", "gout"])

    def test_eight_persons_with_six_kinds_and_no_releases(self):
        for releases in ([], [((4, 3), ()), ((0, 0), ())]):
            self.told(roll_of(8, SIX), releases, {name: list(SIX) for name, _ in PERSONS})

    def test_releases_of_all_in_one_group(self):
        roll = roll_of(8, SIX)
        for secrets in ("aabbcdef", "abcdefff", "aaaaaaab", "ffffffff", "aacceeff", "abcdeeee"):
            told = [(ALL, ((("*", "*"), tuple(secrets)),))]
            self.told(roll, told, {name: sorted(set(secrets)) for name, _ in PERSONS})
            self.told(roll, told * 3, {name: sorted(set(secrets)) for name, _ in PERSONS})

    def test_no_world_of_eight_persons_with_six_kinds(self):
        roll = roll_of(8, SIX)
        for secrets in ("abcdefabcdef", "abcdefa", "abcdefabc", "a", "aabbcdeg", "aabbcdeffgg", "z" * 8, "a" * 60):
            self.no_world(roll, [(ALL, ((("*", "*"), tuple(sorted(secrets))),))])
        one = (ALL, ((("*", "*"), tuple("aabbcdef")),))
        self.no_world(roll, [one, (ALL, ((("*", "*"), tuple("abbbcdef")),))])
        self.no_world(roll, [one, ((4, 1), ((("*", "south"), ("c", "c")),))])
        self.told(
            roll, [one, ((4, 1), ((("*", "south"), ("b", "b")),))],
            {name: ["b"] if name in ("cid", "eve") else list("acdef") for name, _ in PERSONS},
        )

    def test_many_releases_of_eight_persons(self):
        for kinds in (KINDS, SIX):
            roll = roll_of(8, kinds)
            chance = random.Random(3)
            world = tuple(chance.choice(kinds) for _ in PERSONS)
            table = table_of(roll, world)
            for rule in ((1, 1, 0), (2, 1, 8), (2, 2, 8), (3, 2, 8), (5, 2, 8)):
                releases = [release_of(table, levels, rule) for levels in coarsenings_of(table)
                            if levels != ALL or rule[0] < 5]
                told = may_have(roll, releases)
                for (name, _), secret in zip(PERSONS, world):
                    self.assertIn(secret, told[name])
                    if rule[0] == 1 and name not in ("ann", "dan", "hal"):
                        self.assertEqual(told[name], [secret])

    def test_a_group_whose_key_no_person_has(self):
        self.no_world(roll_of(1), [((3, 1), (((100, "north"), ("flu",)),))])
        self.no_world(roll_of(3), [((0, 0), (((12, "york"), ("flu",)), ((15, "york"), ("flu",))))])
        self.told(roll_of(1), [((3, 1), (((0, "north"), ("flu",)),))], {"ann": ["flu"]})

    def test_secrets_that_are_none_of_the_kinds(self):
        self.no_world(roll_of(1), [(ALL, ((("*", "*"), ("zoster",)),))])
        self.no_world(roll_of(2), [(ALL, ((("*", "*"), ("cold", "zoster")),))])
        self.no_world(roll_of(2), [(ALL, ((("*", "*"), ("cold", "flu", "zoster")),))])

    def test_too_few_and_too_many_secrets(self):
        for secrets in (("cold",), ("cold", "cold", "flu"), ("cold", "flu", "gout")):
            self.no_world(roll_of(2), [(ALL, ((("*", "*"), secrets),))])

    def test_releases_that_do_not_fit_together(self):
        for roll, wrong in ((roll_of(2), ("cold", "cold")), (roll_of(2), ("flu", "gout"))):
            right = (ALL, ((("*", "*"), ("cold", "flu")),))
            self.told(roll, [right], {"ann": ["cold", "flu"], "bob": ["cold", "flu"]})
            self.no_world(roll, [right, (ALL, ((("*", "*"), wrong),))])
            self.no_world(roll, [(ALL, ((("*", "*"), wrong),)), right])

    def test_one_kind(self):
        roll = roll_of(8, ("flu",))
        self.told(roll, [], {name: ["flu"] for name, _ in PERSONS})
        self.told(roll, [(ALL, ((("*", "*"), ("flu",) * 8),))], {name: ["flu"] for name, _ in PERSONS})
        self.no_world(roll, [(ALL, ((("*", "*"), ("flu",) * 7),))])

    def test_another_order_and_one_twice(self):
        for roll, releases in chances(150, 4):
            expected = plainly(roll, releases)
            for other in (releases[::-1], releases + releases, releases[:1] + releases, releases[1:] + releases[:1]):
                if expected is None:
                    self.no_world(roll, other)
                else:
                    self.told(roll, other, expected)

    def test_told_lists_and_dicts_are_the_askers_own(self):
        for releases in ([], [(ALL, ((("*", "*"), ("cold", "flu", "flu", "gout")),))]):
            roll = roll_of(4)
            before = copy.deepcopy(may_have(roll, releases))
            told = may_have(roll, releases)
            told["ann"].append("more")
            told["bob"].clear()
            self.assertEqual(told["cid"], before["cid"])
            del told["dan"]
            self.assertEqual(may_have(roll, releases), before)
            again = may_have(roll, releases)
            may_have(roll, releases).clear()
            self.assertEqual(again, before)
            releases.append((ALL, ((("*", "*"), ("cold",) * 4),)))
            self.assertEqual(again, before)

    def test_what_is_handed_in_stays_as_it_is(self):
        for roll, releases in chances(60, 4):
            before = copy.deepcopy((roll, releases))
            if plainly(roll, releases) is not None:
                may_have(roll, releases)
            self.assertEqual((roll, releases), before)


class Asked(unittest.TestCase):
    def test_arguments_by_the_names_of_the_interface(self):
        told = [(ALL, ((("*", "*"), ("cold", "flu")),))]
        self.assertIs(is_roll(thing=HOUSE), True)
        self.assertIs(fits(roll=roll_of(2), world=("flu", "cold"), releases=told), True)
        self.assertIs(fits(releases=told, world=("flu", "flu"), roll=roll_of(2)), False)
        self.assertEqual(may_have(releases=told, roll=roll_of(2)), {"ann": ["cold", "flu"], "bob": ["cold", "flu"]})
        self.assertEqual(may_have(roll=roll_of(1), releases=[]), {"ann": list(KINDS)})


if __name__ == "__main__":
    unittest.main()
