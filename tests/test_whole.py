"""Promise [4]: what the stages say together, from a table to who may have what."""

import itertools
import unittest

from mistgrid.border import border_of
from mistgrid.desk import Desk
from mistgrid.errors import MistError, Tells, Unsafe
from mistgrid.losses import least_loss
from mistgrid.ladders import levels_of
from mistgrid.releases import is_release, release_of
from mistgrid.tables import beneath, is_safe
from mistgrid.texts import read_release, read_table, show_release, show_table
from mistgrid.trees import tree_holds, world_or_tree
from mistgrid.worlds import fits, is_roll, may_have
from tests.samples import FOUR, HOUSE, KINDS, MIXED, TABLES, WIDE, coarsenings_of, table_of, worlds_of

NAMES = ["ann", "bob", "cid", "dan", "eve", "fay", "gus", "hal"]
WORLD = ("cold", "flu", "cold", "gout", "flu", "cold", "flu", "gout")
SMALL = (MIXED, FOUR, table_of(HOUSE, WORLD))
RULES = ((2, 2, 0), (1, 2, 1), (2, 2, 3), (2, 3, 0), (1, 1, 0), (3, 2, 8))


def given_out(table, rule, asks):
    """A desk over a table that was written and read back, behind these asks."""
    desk = Desk(read_table(show_table(table)), NAMES[:len(table[1])], KINDS, rule=rule)
    for levels in asks:
        try:
            desk.ask(levels)
        except (Unsafe, Tells):
            pass
    return desk


class Whole(unittest.TestCase):
    def test_a_table_written_and_read_its_desk_asked_its_releases_written_and_read(self):
        for table in SMALL:
            for rule in RULES:
                for asks in (coarsenings_of(table), coarsenings_of(table)[::-1], coarsenings_of(table)[5::7]):
                    desk = given_out(table, rule, asks)
                    texts = [show_release(release) for release in desk.given()]
                    releases = [read_release(table[0], text) for text in texts]
                    self.assertEqual(releases, desk.given())
                    self.assertEqual(may_have(desk.roll(), releases), desk.may_know())

    def test_behind_each_ask_each_person_may_have_the_own_secret(self):
        for table in SMALL:
            own = tuple(secret for _, secret in table[1])
            for rule in RULES:
                desk = given_out(table, rule, ())
                for levels in coarsenings_of(table)[::-1]:
                    try:
                        desk.ask(levels)
                    except MistError:
                        pass
                    for secrets, secret in zip(desk.may_know().values(), own):
                        self.assertIn(secret, secrets)
                        self.assertGreaterEqual(len(secrets), rule[1])
                    self.assertIs(fits(desk.roll(), own, desk.given()), True)
                self.assertIs(is_roll(desk.roll()), True)

    def test_of_each_told_secret_a_world_and_of_each_other_one_a_tree(self):
        for table in SMALL:
            for rule in RULES:
                desk = given_out(table, rule, coarsenings_of(table)[::3])
                roll, releases, known = desk.roll(), desk.given(), desk.may_know()
                for at, (name, _) in enumerate(roll[1]):
                    for secret in KINDS:
                        kind, thing = world_or_tree(roll, releases, name, secret)
                        self.assertEqual(kind, "world" if secret in known[name] else "tree")
                        if kind == "world":
                            self.assertIs(fits(roll, thing, releases), True)
                            self.assertEqual(thing[at], secret)
                        else:
                            self.assertIs(tree_holds(roll, releases, name, secret, thing), True)

    def test_may_know_against_going_through_all_worlds(self):
        for table in SMALL:
            desk = given_out(table, (2, 2, 3), coarsenings_of(table)[::-4])
            worlds = worlds_of(desk.roll(), desk.given())
            for at, secrets in enumerate(desk.may_know().values()):
                self.assertEqual(secrets, sorted({world[at] for world in worlds}))

    def test_it_gives_out_just_where_it_is_safe_and_each_one_still_may_have_enough(self):
        for table in SMALL:
            for rule in RULES:
                desk = given_out(table, rule, ())
                for levels in coarsenings_of(table)[::-2]:
                    elder = desk.given()
                    expected = is_safe(table, levels, rule)
                    if expected:
                        release = release_of(table, levels, rule)
                        known = may_have(desk.roll(), elder + [release])
                        expected = all(len(secrets) >= rule[1] for secrets in known.values())
                    self.assertEqual(levels in desk.open_now(), expected)
                    try:
                        self.assertEqual(desk.ask(levels), len(elder))
                        self.assertIs(expected, True)
                        self.assertEqual(desk.given(), elder + [release])
                    except (Unsafe, Tells):
                        self.assertIs(expected, False)
                        self.assertEqual(desk.given(), elder)

    def test_what_is_over_the_border_is_released_and_what_is_beneath_it_refused(self):
        for table in TABLES + (FOUR,):
            for rule in RULES:
                least, greatest = border_of(table, rule)
                for levels in coarsenings_of(table):
                    if any(beneath(low, levels) for low in least):
                        self.assertIs(is_release(table[0], release_of(table, levels, rule)), True)
                    else:
                        self.assertTrue(any(beneath(levels, high) for high in greatest))
                        with self.assertRaises(Unsafe):
                            release_of(table, levels, rule)

    def test_what_loses_least_can_be_released(self):
        for table in TABLES + (FOUR, WIDE):
            costs = tuple(tuple(range(levels_of(ladder))) for ladder in table[0])
            for rule in RULES:
                told = least_loss(table, rule, costs)
                if told is not None:
                    release = release_of(table, told[1], rule)
                    self.assertIs(is_release(table[0], release), True)
                    self.assertEqual(read_release(table[0], show_release(release)), release)

    def test_what_is_given_out_hangs_on_no_other_order_of_asks(self):
        # All that is given out together may be given out in each order.
        for table in SMALL:
            desk = given_out(table, (2, 2, 1), coarsenings_of(table))
            row = [levels for levels, _ in desk.given()][:4]
            for order in itertools.permutations(row):
                other = given_out(table, (2, 2, 1), order)
                self.assertEqual([levels for levels, _ in other.given()], list(order))


if __name__ == "__main__":
    unittest.main()
