"""Promises [22] to [25], and what [2], [3] and [4] say of the desk."""

import copy
import itertools
import random
import unittest
from unittest import mock

from mistgrid import desk as desk_file
from mistgrid.desk import RULE, Desk
from mistgrid.errors import MistError, NoDesk, NoLevel, NoText, NoWorld, Tells, Unsafe
from mistgrid.releases import release_of
from mistgrid.tables import failing, is_safe
from mistgrid.worlds import may_have
from tests.samples import (
    AGES, EIGHT, EMPTY, HOUSE, KINDS, MIXED, NUMBERS, PLACES, PLAIN, SHORT, SIX, Rude, anything,
    coarsenings_of, is_among, roll_of, table_of, worlds_of,
)

WORLD = ("cold", "flu", "cold", "gout", "flu", "cold", "flu", "gout")
NAMES = ["ann", "bob", "cid", "dan", "eve", "fay", "gus", "hal"]
TABLE = table_of(HOUSE, WORLD)
ALL = (4, 3)
# Four persons: by the places alone or by the ages alone each group has two unlike secrets.
FOUR_PERSONS = (
    (PLACES, SHORT),
    ((("york", "yes"), "a"), (("york", "no"), "b"), (("dover", "yes"), "b"), (("dover", "no"), "a")),
)


def chance_desks(many, most):
    """Tables of few persons, with names, kinds and a rule, so that some asks are refused."""
    chance = random.Random(many)
    ladders = (("num", (2, 4)), SHORT, PLACES)
    values = ((0, 1, 2, 3, 5), ("yes", "no"), ("york", "hull", "dover"))
    for _ in range(many):
        picked = chance.sample(range(3), chance.randint(1, 2))
        rows = tuple(
            (tuple(chance.choice(values[at]) for at in picked), chance.choice(KINDS))
            for _ in range(chance.choice((1, 2, most - 1, most, most, most)))
        )
        rule = (chance.randint(1, 2), chance.randint(1, 3), chance.choice((0, 0, 1, 2, 8)))
        yield (tuple(ladders[at] for at in picked), rows), NAMES[:len(rows)], KINDS, rule


class PlainDesk:
    """A desk as [23] tells it, by going through all worlds."""

    def __init__(self, table, names, kinds, rule):
        self.table, self.rule, self.releases = table, rule, []
        persons = tuple((name, publics) for name, (publics, _) in zip(names, table[1]))
        self.roll = (table[0], persons, kinds)

    def ask(self, levels):
        """The number, or the refusal's class and what it tells."""
        if not is_safe(self.table, levels, self.rule):
            return Unsafe, tuple(key for key, _ in failing(self.table, levels, self.rule))
        for number, (given, _) in enumerate(self.releases):
            if given == levels:
                return number
        release = release_of(self.table, levels, self.rule)
        worlds = worlds_of(self.roll, self.releases + [release])
        for at, (name, _) in enumerate(self.roll[1]):
            secrets = tuple(sorted({world[at] for world in worlds}))
            if len(secrets) < self.rule[1]:
                return Tells, name, secrets
        self.releases.append(release)
        return len(self.releases) - 1


def asked(desk, levels):
    """What a desk tells, in the form of PlainDesk."""
    try:
        return desk.ask(levels)
    except Unsafe as error:
        return Unsafe, error.keys_told
    except Tells as error:
        return Tells, error.person, error.secrets


class Making(unittest.TestCase):
    def no_desk(self, *asked, **named):
        with self.assertRaises(NoDesk) as caught:
            Desk(*asked, **named)
        self.assertIsInstance(caught.exception, MistError)
        self.assertIsInstance(caught.exception, ValueError)
        self.assertNotIsInstance(caught.exception, (NoLevel, NoWorld, NoText, Unsafe, Tells))

    def test_the_rule_left_out(self):
        self.assertEqual(RULE, (2, 2, 0))
        self.assertIs(type(desk_file.RULE), tuple)
        for table, names, kinds, _ in chance_desks(30, 4):
            one, other = Desk(table, names, kinds), Desk(table, names, kinds, rule=(2, 2, 0))
            for levels in coarsenings_of(table):
                self.assertEqual(asked(one, levels), asked(other, levels))
        self.no_desk(((PLAIN,), (((1,), "a"),)), ["ann"], ("a",))
        self.assertEqual(Desk(((PLAIN,), (((1,), "a"),)), ["ann"], ("a",), rule=(1, 1, 0)).ask((0,)), 0)

    def test_what_it_is_when_it_is_new(self):
        desk = Desk(TABLE, NAMES, KINDS)
        self.assertEqual(desk.roll(), HOUSE)
        self.assertEqual(desk.given(), [])
        self.assertEqual(desk.may_know(), {name: list(KINDS) for name in NAMES})
        self.assertEqual((desk.asked(), desk.refused()), (0, 0))
        self.assertIs(desk.is_asking(), False)

    def test_no_table(self):
        for table in (None, (), TABLE[0], list(TABLE), (TABLE[0], list(TABLE[1])), TABLE + ((),), (TABLE[1], TABLE[0]),
                      ((AGES,), TABLE[1]), (TABLE[0], TABLE[1][:7] + ((12, "york"),)), HOUSE,
                      (TABLE[0], TABLE[1][:7] + (((True, "york"), "flu"),))):
            self.no_desk(table, list(NAMES), KINDS)

    def test_no_persons_and_nine(self):
        self.no_desk(EMPTY, [], KINDS)
        nine = ((PLAIN,), tuple(((at,), "flu") for at in range(9)))
        self.no_desk(nine, NAMES + ["ivy"], KINDS)
        self.no_desk(NUMBERS, ["p" + letter for letter in "abcdefghij"], ("a", "b", "c"))
        for many in range(1, 9):
            table = ((PLAIN,), nine[1][:many])
            self.assertEqual(len(Desk(table, NAMES[:many], KINDS).roll()[1]), many)

    def test_not_as_many_names_as_rows(self):
        for names in (NAMES[:7], NAMES + ["ivy"], [], NAMES * 2):
            self.no_desk(TABLE, names, KINDS)

    def test_names_that_are_like(self):
        self.no_desk(TABLE, NAMES[:7] + ["ann"], KINDS)
        self.no_desk(TABLE, ["ann"] * 8, KINDS)

    def test_names(self):
        for name in ("", "Ann", "a b", "abcdefghijklm", "ann1", None, 5, True, ("ann",), ["ann"], b"ann", Rude()):
            self.no_desk(TABLE, NAMES[:7] + [name], KINDS)
            self.no_desk(TABLE, [name] + NAMES[1:], KINDS)
        for names in (None, 8, "abcdefgh", {name: True for name in NAMES}, set(NAMES), True, Rude()):
            self.no_desk(TABLE, names, KINDS)

    def test_kinds(self):
        for kinds in ((), ("cold", "flu", "gout", "gout"), ("flu", "cold", "gout"), list(KINDS), KINDS + ("Zoster",),
                      KINDS + SIX, ("a", "b", "c", "cold", "d", "flu", "gout"), None, "cold", 3, KINDS + (None,),
                      ("cold", "flu", "goutabcdefghij"), {"cold": 1, "flu": 2, "gout": 3}, Rude(), (Rude(),) + KINDS):
            self.no_desk(TABLE, NAMES, kinds)
        self.assertEqual(Desk(TABLE, NAMES, ("a", "b", "c", "cold", "flu", "gout")).roll()[2][0], "a")

    def test_a_secret_that_is_none_of_the_kinds(self):
        for at in range(8):
            for secret in ("zoster", "col", "colds"):
                rows = TABLE[1][:at] + ((TABLE[1][at][0], secret),) + TABLE[1][at + 1:]
                self.no_desk((TABLE[0], rows), NAMES, KINDS)
        for kinds in (("cold", "flu"), ("cold", "gout"), ("flu", "gout"), ("a", "b", "c")):
            self.no_desk(TABLE, NAMES, kinds)

    def test_no_rule(self):
        for rule in (None, (), (2, 2), (2, 2, 0, 0), [2, 2, 0], (0, 2, 0), (2, 0, 0), (2, 2, -1), (True, 2, 0),
                     (2, True, 0), (2, 2, False), ("2", 2, 0), (2.0, 2, 0), (1000000000, 2, 0), 2, "220", Rude(),
                     (2, 2, None)):
            self.no_desk(TABLE, NAMES, KINDS, rule=rule)

    def test_more_unlike_secrets_needed_than_there_are_kinds(self):
        for many in range(1, 7):
            table = ((PLAIN,), (((1,), "a"),))
            for l in range(1, 9):
                if l > many:
                    self.no_desk(table, ["ann"], SIX[:many], rule=(1, l, 0))
                else:
                    self.assertEqual(Desk(table, ["ann"], SIX[:many], rule=(1, l, 1)).ask((1,)), 0)
        self.no_desk(TABLE, NAMES, KINDS, rule=(1, 999999999, 0))
        self.assertEqual(Desk(TABLE, NAMES, KINDS, rule=(999999999, 3, 999999999)).ask((0, 0)), 0)

    def test_a_name_list_changed_behind_the_making(self):
        names = list(NAMES)
        desk = Desk(TABLE, names, KINDS)
        names[0] = "zoe"
        names.reverse()
        names.pop()
        self.assertEqual(desk.roll(), HOUSE)
        self.assertEqual(list(desk.may_know()), NAMES)
        names.clear()
        self.assertEqual(desk.ask(ALL), 0)
        self.assertEqual(list(desk.may_know()), NAMES)
        self.assertEqual(desk.roll(), HOUSE)

    def test_what_is_handed_in_stays_as_it_is(self):
        names = list(NAMES)
        desk = Desk(TABLE, names, KINDS)
        desk.ask(ALL)
        desk.roll(), desk.may_know(), desk.given(), desk.open_now()
        self.assertEqual(names, NAMES)

    def test_of_anything(self):
        table = ((PLAIN,), (((1,), "a"), ((1,), "b")))
        for thing in anything():
            self.no_desk(thing, ["ann", "bob"], ("a", "b"))
            self.no_desk(table, thing, ("a", "b"))
            self.no_desk(table, ["ann", thing] if not is_among(thing, ("num",)) else [], ("a", "b"))
            self.no_desk(table, ["ann", "bob"], thing if not is_among(thing, (("a", "b", "c"),)) else ())
            self.no_desk(table, ["ann", "bob"], ("a", "b"), rule=thing)


class Asking(unittest.TestCase):
    def test_by_hand(self):
        desk = Desk(FOUR_PERSONS, NAMES[:4], ("a", "b"))
        self.assertEqual(desk.ask((3, 1)), 0)
        self.assertEqual(desk.ask((0, 1)), 1)
        self.assertEqual(desk.given(), [
            ((3, 1), ((("*", "*"), ("a", "a", "b", "b")),)),
            ((0, 1), ((("dover", "*"), ("a", "b")), (("york", "*"), ("a", "b")))),
        ])
        self.assertEqual(desk.ask((3, 0)), 2)
        self.assertEqual(desk.may_know(), {name: ["a", "b"] for name in NAMES[:4]})

    def test_tells(self):
        rows = FOUR_PERSONS[1][:2] + (FOUR_PERSONS[1][2], (("dover", "no"), "c"))
        desk = Desk((FOUR_PERSONS[0], rows), NAMES[:4], ("a", "b", "c"))
        # By the places cid and dan have b and c, by the other ladder bob and dan do.
        self.assertEqual(desk.ask((0, 1)), 0)
        with self.assertRaises(Tells) as caught:
            desk.ask((3, 0))
        self.assertEqual((caught.exception.person, caught.exception.secrets), ("ann", ("a",)))
        self.assertIs(type(caught.exception.secrets), tuple)
        for refusal in (MistError, ValueError):
            self.assertIsInstance(caught.exception, refusal)
        for refusal in (NoLevel, NoWorld, NoText, NoDesk, Unsafe):
            self.assertNotIsInstance(caught.exception, refusal)
        self.assertEqual(len(desk.given()), 1)
        self.assertEqual((desk.asked(), desk.refused()), (2, 1))
        self.assertEqual(desk.may_know(), {"ann": ["a", "b"], "bob": ["a", "b"], "cid": ["b", "c"], "dan": ["b", "c"]})

    def test_tells_the_first_person_in_the_persons_order(self):
        # Not the first one by letters, and not the first of the release's groups.
        rows = FOUR_PERSONS[1][:2] + (FOUR_PERSONS[1][2], (("dover", "no"), "c"))
        for order in itertools.permutations(range(4)):
            table = (FOUR_PERSONS[0], tuple(rows[at] for at in order))
            names = [("zoe", "bob", "mia", "ann")[at] for at in order]
            desk = Desk(table, names, ("a", "b", "c"))
            plain = PlainDesk(table, names, ("a", "b", "c"), RULE)
            for levels in ((0, 1), (3, 0), (3, 1)):
                self.assertEqual(asked(desk, levels), plain.ask(levels))
            first = names[0]
            desk = Desk(table, names, ("a", "b", "c"))
            desk.ask((0, 1))
            self.assertEqual(asked(desk, (3, 0))[1], first)

    def test_tells_what_this_one_may_have(self):
        table = ((AGES, SHORT), (((1, "yes"), "a"), ((2, "yes"), "b"), ((3, "yes"), "c"),
                                 ((11, "no"), "a"), ((12, "no"), "b"), ((13, "no"), "b")))
        desk = Desk(table, NAMES[:6], ("a", "b", "c"), rule=(1, 3, 3))
        # By the first one the others are left out, and by both they have what is left.
        self.assertEqual(desk.ask((2, 1)), 0)
        self.assertEqual(asked(desk, (4, 1)), (Tells, "dan", ("a", "b")))
        desk = Desk(table, NAMES[:6], ("a", "b", "c"), rule=(1, 2, 3))
        self.assertEqual([asked(desk, levels) for levels in ((4, 1), (2, 0))], [0, 1])

    def test_one_may_be_told_of_that_may_have_nothing_else(self):
        desk = Desk(((PLAIN,), (((1,), "a"), ((2,), "b"))), ["ann", "bob"], ("a", "b"), rule=(1, 1, 0))
        for number, levels in enumerate(((1,), (0,))):
            self.assertEqual(desk.ask(levels), number)
        self.assertEqual(desk.may_know(), {"ann": ["a"], "bob": ["b"]})

    def test_no_level_ahead_of_unsafe_ahead_of_tells(self):
        for rule in ((999999999, 3, 0), (1, 1, 60), RULE):
            desk = Desk(TABLE, NAMES, KINDS, rule=rule)
            for many, levels in enumerate((
                (), (0,), (4, 3, 0), (-1, 0), (0, -1), (5, 0), (0, 4), (5, 4), (999999999, 0), (-999999999, 0),
                [4, 3], None, (4, True), (4, "3"), 4, "43", (None, None), Rude(), (4, Rude()), (4, (3,)),
            ), 1):
                with self.assertRaises(NoLevel):
                    desk.ask(levels)
                self.assertEqual((desk.asked(), desk.refused()), (many, many))
                self.assertIs(desk.is_asking(), False)
            self.assertEqual(desk.given(), [])
        # By the rule's third number it is safe or not, and if it is it would tell too much.
        rows = (((1,), "a"), ((1,), "b"), ((2,), "b"), ((2,), "c"), ((3,), "c"))
        for s, told in ((0, (Unsafe, ((3,),))), (1, (Tells, "eve", ("c",)))):
            desk = Desk(((PLAIN,), rows), NAMES[:5], ("a", "b", "c"), rule=(2, 2, s))
            self.assertEqual(desk.ask((1,)), 0)
            self.assertEqual(asked(desk, (0,)), told)

    def test_unsafe(self):
        desk = Desk(TABLE, NAMES, KINDS)
        for levels in coarsenings_of(TABLE):
            if not is_safe(TABLE, levels, RULE):
                keys = tuple(key for key, _ in failing(TABLE, levels, RULE))
                self.assertEqual(asked(desk, levels), (Unsafe, keys))
        self.assertEqual(desk.given(), [])
        self.assertEqual(desk.asked(), desk.refused())
        self.assertGreater(desk.refused(), 5)

    def test_against_going_through_all_worlds(self):
        chance = random.Random(5)
        seen = {int: 0, Unsafe: 0, Tells: 0}
        for made in chance_desks(150, 5):
            desk, plain = Desk(*made[:3], rule=made[3]), PlainDesk(*made)
            asks = coarsenings_of(made[0]) * 2
            chance.shuffle(asks)
            refused = 0
            for many, levels in enumerate(asks, 1):
                told, expected = asked(desk, levels), plain.ask(levels)
                self.assertEqual(told, expected, (made, levels))
                seen[type(told) if type(told) is int else told[0]] += 1
                refused += type(told) is not int
                self.assertEqual((desk.asked(), desk.refused()), (many, refused))
                self.assertIs(desk.is_asking(), False)
            self.assertEqual(desk.given(), plain.releases)
        self.assertGreater(min(seen.values()), 50)

    def test_numbers_from_0_and_the_elder_number(self):
        desk = Desk(TABLE, NAMES, KINDS, rule=(1, 1, 0))
        all_levels = coarsenings_of(TABLE)
        random.Random(2).shuffle(all_levels)
        for number, levels in enumerate(all_levels):
            self.assertEqual(desk.ask(levels), number)
            self.assertIs(type(desk.ask(levels)), int)
            self.assertEqual(desk.ask(all_levels[0]), 0)
            self.assertEqual(len(desk.given()), number + 1)
        given = desk.given()
        for number, levels in enumerate(all_levels):
            self.assertEqual(desk.ask(tuple(list(levels))), number)
            self.assertEqual(given[number], release_of(TABLE, levels, (1, 1, 0)))
        self.assertEqual(desk.given(), given)
        self.assertEqual((desk.asked(), desk.refused()), (len(all_levels) * 4, 0))

    def test_other_levels_with_the_same_groups_are_another_release(self):
        table = ((SHORT, SHORT), ((("yes", "yes"), "a"), (("yes", "yes"), "b")))
        desk = Desk(table, ["ann", "bob"], ("a", "b"))
        self.assertEqual([desk.ask(levels) for levels in ((0, 0), (0, 1), (1, 0), (1, 1), (0, 1))], [0, 1, 2, 3, 1])

    def test_what_is_refused_changes_nothing_else(self):
        for made in chance_desks(60, 5):
            desk = Desk(*made[:3], rule=made[3])
            for levels in coarsenings_of(made[0]):
                before = (desk.given(), desk.may_know(), desk.open_now(), desk.roll())
                if type(asked(desk, levels)) is not int:
                    self.assertEqual((desk.given(), desk.may_know(), desk.open_now(), desk.roll()), before)
                with self.assertRaises(NoLevel):
                    desk.ask(levels + (0,))

    def test_is_asking_is_false_behind_each_ask(self):
        rows = FOUR_PERSONS[1][:2] + (FOUR_PERSONS[1][2], (("dover", "no"), "c"))
        desk = Desk((FOUR_PERSONS[0], rows), NAMES[:4], ("a", "b", "c"))
        refusals = []
        for levels in ((0, 1), (0, 1), (3, 0), (0, 0), (9, 9), (), (3, 1)):
            try:
                desk.ask(levels)
            except MistError as error:
                refusals.append(type(error))
                self.assertIs(desk.is_asking(), False)
            self.assertIs(desk.is_asking(), False)
        self.assertEqual(refusals, [Tells, Unsafe, NoLevel, NoLevel])
        self.assertEqual((desk.asked(), desk.refused()), (7, 4))

    def test_is_asking_is_true_within_an_ask_alone(self):
        desk, seen = Desk(TABLE, NAMES, KINDS), []

        def looked(*asked):
            seen.append((desk.is_asking(), desk.asked(), desk.refused()))
            if asked[1] == (0, 0):
                raise KeyboardInterrupt
            return release_of(*asked)

        with mock.patch.object(desk_file, "release_of", looked):
            self.assertEqual(desk.ask(ALL), 0)
            self.assertIs(desk.is_asking(), False)
            with self.assertRaises(Unsafe):
                desk.ask((0, 1))
            self.assertIs(desk.is_asking(), False)
            with self.assertRaises(KeyboardInterrupt):
                desk.ask((0, 0))
            self.assertIs(desk.is_asking(), False)
        self.assertEqual(seen, [(True, 1, 0), (True, 2, 0), (True, 3, 1)])
        self.assertEqual(desk.ask(ALL), 0)

    def test_what_only_looks_is_not_counted(self):
        desk = Desk(TABLE, NAMES, KINDS)
        desk.ask(ALL)
        desk.given(), desk.may_know(), desk.open_now(), desk.roll(), desk.is_asking(), desk.refused()
        self.assertEqual((desk.asked(), desk.refused()), (1, 0))

    def test_two_desks_over_one_table(self):
        rows = FOUR_PERSONS[1][:2] + (FOUR_PERSONS[1][2], (("dover", "no"), "c"))
        table, names, kinds = (FOUR_PERSONS[0], rows), NAMES[:4], ("a", "b", "c")
        one, other = Desk(table, names, kinds), Desk(table, names, kinds)
        self.assertEqual(one.ask((0, 1)), 0)
        self.assertEqual(other.given(), [])
        self.assertEqual(other.ask((3, 0)), 0)
        self.assertEqual(asked(one, (3, 0))[0], Tells)
        self.assertEqual(asked(other, (0, 1))[0], Tells)
        self.assertEqual((one.asked(), one.refused(), other.asked(), other.refused()), (2, 1, 2, 1))
        self.assertNotEqual(one.may_know(), other.may_know())
        self.assertNotEqual(one.open_now(), other.open_now())

    def test_each_person_may_have_the_own_secret_and_enough_others(self):
        for made in chance_desks(60, 6):
            desk = Desk(*made[:3], rule=made[3])
            for levels in coarsenings_of(made[0]):
                asked(desk, levels)
                for (_, secret), secrets in zip(made[0][1], desk.may_know().values()):
                    self.assertIn(secret, secrets)
                    self.assertGreaterEqual(len(secrets), made[3][1])


class Looking(unittest.TestCase):
    def test_may_know_is_as_for_the_releases(self):
        for made in chance_desks(60, 6):
            desk = Desk(*made[:3], rule=made[3])
            self.assertEqual(desk.may_know(), {name: list(KINDS) for name in made[1]})
            for levels in coarsenings_of(made[0])[::-1]:
                asked(desk, levels)
                told = desk.may_know()
                self.assertEqual(told, may_have(desk.roll(), desk.given()))
                self.assertEqual(list(told), made[1])

    def test_open_now_is_what_a_fresh_desk_gives_out(self):
        chance = random.Random(9)
        several = 0
        for made in chance_desks(90, 5):
            desk = Desk(*made[:3], rule=made[3])
            all_levels = coarsenings_of(made[0])
            row = []
            for _ in range(3):
                told = desk.open_now()
                expected = []
                for levels in all_levels:
                    fresh = Desk(*made[:3], rule=made[3])
                    for elder in row:
                        fresh.ask(elder)
                    if type(asked(fresh, levels)) is int:
                        expected.append(levels)
                self.assertEqual(told, expected)
                self.assertEqual(told, sorted(set(told)))
                for levels, _ in desk.given():
                    self.assertIn(levels, told)
                safe = [levels for levels in all_levels if is_safe(made[0], levels, made[3])]
                several += len(row) < len(told) < len(safe)
                levels = chance.choice(all_levels)
                if type(asked(desk, levels)) is int:
                    row.append(levels)
        self.assertGreater(several, 5)

    def test_open_now_by_hand(self):
        rows = FOUR_PERSONS[1][:2] + (FOUR_PERSONS[1][2], (("dover", "no"), "c"))
        desk = Desk((FOUR_PERSONS[0], rows), NAMES[:4], ("a", "b", "c"))
        self.assertEqual(desk.open_now(), [(0, 1), (1, 1), (2, 0), (2, 1), (3, 0), (3, 1)])
        desk.ask((3, 0))
        self.assertEqual(desk.open_now(), [(2, 0), (2, 1), (3, 0), (3, 1)])
        self.assertEqual(Desk(TABLE, NAMES, KINDS, rule=(9, 3, 7)).open_now(), [])
        self.assertEqual(
            Desk(TABLE, NAMES, KINDS, rule=(9, 3, 8)).open_now(), coarsenings_of(TABLE))

    def test_the_greatest_desk(self):
        chance = random.Random(4)
        rows = tuple(
            (tuple(chance.randint(-60, 60) for _ in range(4)), chance.choice(SIX)) for _ in range(8))
        table = ((EIGHT,) * 4, rows)
        for rule in ((1, 1, 0), (2, 2, 3), (2, 2, 8)):
            desk = Desk(table, NAMES, SIX, rule=rule)
            told = desk.open_now()
            for levels in told[::7]:
                asked(desk, levels)
            again = desk.open_now()
            self.assertLessEqual(set(again), set(told))
            self.assertGreaterEqual(set(again), {levels for levels, _ in desk.given()})
            for levels in again[::11]:
                fresh = Desk(table, NAMES, SIX, rule=rule)
                for elder, _ in desk.given()[:60]:
                    fresh.ask(elder)
                self.assertIs(type(fresh.ask(levels)), int)

    def test_told_lists_and_dicts_are_the_askers_own(self):
        desk = Desk(TABLE, NAMES, KINDS, rule=(2, 2, 3))
        desk.ask(ALL)
        desk.ask((4, 1))
        before = copy.deepcopy((desk.given(), desk.may_know(), desk.open_now(), desk.roll()))
        given, known, open_ones = desk.given(), desk.may_know(), desk.open_now()
        given.pop()
        given.append("more")
        known["ann"].append("more")
        known["bob"].clear()
        del known["cid"]
        open_ones.clear()
        self.assertEqual((desk.given(), desk.may_know(), desk.open_now(), desk.roll()), before)
        self.assertEqual(desk.ask((4, 1)), 1)
        self.assertEqual((desk.given(), desk.may_know(), desk.open_now(), desk.roll()), before)

    def test_what_was_told_stays_as_it_is(self):
        desk = Desk(TABLE, NAMES, KINDS)
        told = [(desk.given(), desk.may_know(), desk.open_now())]
        before = copy.deepcopy(told)
        for levels in coarsenings_of(TABLE):
            asked(desk, levels)
            self.assertEqual(told, before)
            told.append((desk.given(), desk.may_know(), desk.open_now()))
            before = copy.deepcopy(told)

    def test_the_roll(self):
        self.assertEqual(Desk(TABLE, NAMES, KINDS).roll(), HOUSE)
        for many in range(1, 9):
            table = table_of(roll_of(many), WORLD)
            self.assertEqual(Desk(table, NAMES[:many], KINDS).roll(), roll_of(many))
        self.assertEqual(
            Desk(MIXED, NAMES[::-1], KINDS).roll(),
            (MIXED[0], tuple((name, publics) for name, (publics, _) in zip(NAMES[::-1], MIXED[1])), KINDS),
        )


class Asked(unittest.TestCase):
    def test_arguments_by_the_names_of_the_interface(self):
        desk = Desk(table=TABLE, names=NAMES, kinds=KINDS, rule=(2, 2, 0))
        self.assertEqual(desk.ask(levels=ALL), 0)
        self.assertEqual(Desk(kinds=KINDS, table=TABLE, names=NAMES).roll(), HOUSE)
        self.assertEqual(desk.given(), [release_of(TABLE, ALL, RULE)])

    def test_the_rule_is_handed_in_by_name_alone(self):
        with self.assertRaises(TypeError):
            Desk(TABLE, NAMES, KINDS, RULE)


if __name__ == "__main__":
    unittest.main()
