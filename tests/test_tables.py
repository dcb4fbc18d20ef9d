"""Promises [8], [9], [10], what [2] says of tables, and what [4] says rests on these."""

import copy
import unittest

from mistgrid.errors import MistError, NoDesk, NoLevel, NoText, NoWorld, Tells, Unsafe
from mistgrid.ladders import coarse, levels_of
from mistgrid.tables import beneath, failing, groups_of, is_rule, is_safe, is_table
from tests.samples import (
    AGES, EMPTY, MIXED, NUMBERS, PLACES, PLAIN, SHORT, TABLES, Rude, anything, coarsenings_of,
)

RULES = [(k, l, s) for k in (1, 2, 3, 9) for l in (1, 2, 3, 4) for s in (0, 1, 2, 3, 8, 60)]
ROW = ((1,), "a")


def ages(*rows):
    """A table of ages alone, of (age, secret)."""
    return ((AGES,), tuple(((age,), secret) for age, secret in rows))


def plainly_grouped(table, levels):
    """The groups as [9] tells them, by another way."""
    ladders, rows = table
    keys = [tuple(coarse(*part) for part in zip(ladders, row[0], levels)) for row in rows]
    return [
        (key, tuple(number for number, other in enumerate(keys) if other == key))
        for key in sorted(set(keys))
    ]


class Tables(unittest.TestCase):
    def test_tables(self):
        for table in TABLES:
            self.assertIs(is_table(table), True)

    def test_none_to_sixty_rows(self):
        for many in (0, 1, 59, 60):
            self.assertIs(is_table(((PLAIN,), (ROW,) * many)), True, many)
        for many in (61, 100):
            self.assertIs(is_table(((PLAIN,), (ROW,) * many)), False, many)

    def test_one_to_four_ladders(self):
        for many in range(1, 5):
            self.assertIs(is_table(((PLAIN,) * many, ())), True, many)
            self.assertIs(is_table(((PLAIN,) * many, (((1,) * many, "a"),))), True, many)
        for many in (0, 5, 6):
            self.assertIs(is_table(((PLAIN,) * many, ())), False, many)
            self.assertIs(is_table(((PLAIN,) * many, (((1,) * many, "a"),))), False, many)

    def test_publics_are_a_value_for_each_ladder(self):
        for publics in ((), (1,), (1, "yes", "yes"), (1, "yes", 1), (1, 1), ("yes", 1), ("yes", "no"),
                        (1, "maybe"), (1, "*"), (True, "yes"), (1000000000, "yes"), [1, "yes"],
                        None, 1, "yes", {1: 1, "yes": 1}, (None, None), (Rude(), "yes"), (1, Rude())):
            self.assertIs(is_table(((AGES, SHORT), ((publics, "a"),))), False)
        for publics in ((1, "yes"), (-999999999, "no")):
            self.assertIs(is_table(((AGES, SHORT), ((publics, "a"),))), True)

    def test_a_value_is_above_no_other_name(self):
        self.assertIs(is_table(((PLACES,), ((("york",), "a"),))), True)
        for name in ("north", "land", "*"):
            self.assertIs(is_table(((PLACES,), (((name,), "a"),))), False, name)

    def test_secrets_are_names(self):
        for secret in ("a", "abcdefghijkl"):
            self.assertIs(is_table(((PLAIN,), (((1,), secret),))), True, secret)
        for secret in ("", "abcdefghijklm", "A", "a1", "a b", "*", "\u00e9", None, 1, True, b"a",
                       ("a",), ["a"], Rude()):
            self.assertIs(is_table(((PLAIN,), (((1,), secret),))), False)

    def test_one_wrong_row_or_ladder_behind_right_ones(self):
        self.assertIs(is_table(((PLAIN,), (ROW, ROW, ((1,), "A")))), False)
        self.assertIs(is_table(((PLAIN,), (ROW, ((1, 2), "a"), ROW))), False)
        self.assertIs(is_table(((PLAIN, ("num", (1,))), ())), False)

    def test_lists_in_the_place_of_tuples(self):
        for thing in ([(PLAIN,), (ROW,)], ([PLAIN], (ROW,)), ((PLAIN,), [ROW]),
                      ((PLAIN,), ([(1,), "a"],)), ((PLAIN,), (([1], "a"),)),
                      ((["num", ()],), (ROW,)), ((("num", []),), (ROW,))):
            self.assertIs(is_table(thing), False, thing)

    def test_tuples_of_other_lengths(self):
        for thing in (((PLAIN,),), ((PLAIN,), (), ()), ((PLAIN,), (((1,),),)), ((PLAIN,), ((),)),
                      ((PLAIN,), (((1,), "a", "a"),))):
            self.assertIs(is_table(thing), False, thing)

    def test_it_is_told_of_anything(self):
        for thing in anything():
            self.assertIs(is_table(thing), False)
            self.assertIs(is_table(((PLAIN,), (thing,))), False)
            self.assertIs(is_table((thing, ())), False)
            self.assertIs(is_table(((PLAIN, thing), ())), False)

    def test_what_is_asked_of_stays_as_it_is(self):
        for thing in ([[PLAIN], [ROW]], ((PLAIN,), [[[1], "a"]]), {"a": [1]}, [1, 1, [0]]):
            before = copy.deepcopy(thing)
            is_table(thing)
            is_rule(thing)
            self.assertEqual(thing, before)


class Rules(unittest.TestCase):
    def test_the_least_numbers(self):
        self.assertIs(is_rule((1, 1, 0)), True)
        for thing in ((0, 1, 0), (1, 0, 0), (1, 1, -1), (-1, 1, 0), (1, -1, 0)):
            self.assertIs(is_rule(thing), False, thing)

    def test_at_most_nine_figures(self):
        self.assertIs(is_rule((999999999, 999999999, 999999999)), True)
        for thing in ((1000000000, 1, 0), (1, 1000000000, 0), (1, 1, 1000000000), (10 ** 5000, 1, 0)):
            self.assertIs(is_rule(thing), False)

    def test_l_may_be_greater_than_k(self):
        self.assertIs(is_rule((1, 5, 0)), True)
        self.assertIs(is_rule((5, 1, 60)), True)

    def test_other_things(self):
        for thing in ((True, 1, 0), (1, True, 0), (1, 1, False), (1, 1), (1, 1, 0, 0), (), [1, 1, 0],
                      (1.0, 1, 0), ("1", 1, 0), (None, 1, 0), (1, 1, None), {1: 1, 2: 2, 3: 3}):
            self.assertIs(is_rule(thing), False, thing)
        for thing in anything():
            self.assertIs(is_rule(thing), False)


class Beneath(unittest.TestCase):
    def test_each_one_is_beneath_itself(self):
        for levels in coarsenings_of(MIXED):
            self.assertIs(beneath(levels, levels), True)

    def test_no_level_above_the_others(self):
        for one, other, told in (
            ((0,), (1,), True),
            ((1,), (0,), False),
            ((0, 0), (0, 1), True),
            ((0, 1), (0, 0), False),
            ((0, 1), (1, 0), False),
            ((1, 0), (0, 1), False),
            ((1, 2, 3), (1, 2, 4), True),
            ((1, 2, 3), (2, 3, 4), True),
            ((1, 2, 5), (2, 3, 4), False),
            ((2, 2, 3), (1, 3, 4), False),
            ((0, 0, 0, 0), (7, 7, 7, 7), True),
        ):
            self.assertIs(beneath(one, other), told, (one, other))


class Groups(unittest.TestCase):
    def test_mixed_kinds_of_ladders(self):
        self.assertEqual(
            groups_of(MIXED, (0, 0, 0)),
            [
                ((-5, "york", "no"), (2,)),
                ((-3, "hull", "no"), (1,)),
                ((-3, "york", "yes"), (6,)),
                ((0, "dover", "yes"), (3,)),
                ((12, "york", "no"), (0, 7)),
                ((14, "hull", "no"), (4,)),
                ((49, "dover", "no"), (5,)),
            ],
        )
        self.assertEqual(
            groups_of(MIXED, (2, 1, 1)),
            [
                ((-10, "north", "*"), (1, 2, 6)),
                ((0, "south", "*"), (3,)),
                ((10, "north", "*"), (0, 4, 7)),
                ((40, "south", "*"), (5,)),
            ],
        )
        self.assertEqual(
            groups_of(MIXED, (4, 2, 0)),
            [(("*", "land", "no"), (0, 1, 2, 4, 5, 7)), (("*", "land", "yes"), (3, 6))],
        )
        self.assertEqual(groups_of(MIXED, (4, 3, 1)), [(("*", "*", "*"), tuple(range(8)))])

    def test_keys_stand_in_the_order_of_numbers_not_of_their_texts(self):
        table = ages((100, "a"), (9, "a"), (-20, "a"), (-3, "a"))
        self.assertEqual([key for key, _ in groups_of(table, (0,))], [(-20,), (-3,), (9,), (100,)])

    def test_all_coarsenings(self):
        for table in TABLES:
            for levels in coarsenings_of(table):
                self.assertEqual(groups_of(table, levels), plainly_grouped(table, levels))

    def test_a_table_without_rows(self):
        for levels in coarsenings_of(EMPTY):
            self.assertEqual(groups_of(EMPTY, levels), [])
            self.assertEqual(failing(EMPTY, levels, (2, 2, 0)), [])
            self.assertIs(is_safe(EMPTY, levels, (2, 2, 0)), True)

    def test_a_told_list_is_the_askers_own(self):
        for ask in (lambda: groups_of(MIXED, (1, 1, 0)), lambda: failing(MIXED, (1, 1, 0), (2, 2, 0))):
            told = ask()
            before = list(told)
            told.clear()
            self.assertEqual(ask(), before)
            again = ask()
            again.append("more")
            again[0] = None
            self.assertEqual(ask(), before)
            self.assertIsNot(ask(), ask())

    def test_what_is_told(self):
        for told in (groups_of(MIXED, (2, 1, 0)), failing(MIXED, (2, 1, 0), (2, 2, 0))):
            self.assertIs(type(told), list)
            for group in told:
                self.assertIs(type(group), tuple)
                self.assertEqual([type(part) for part in group], [tuple, tuple])

    def test_kept_lists_of_values_do_not_change(self):
        self.assertEqual(groups_of(MIXED, (0, 0, 0)), groups_of(copy.deepcopy(MIXED), (0, 0, 0)))


class NoLevels(unittest.TestCase):
    def refused(self, table, levels):
        for ask in (
            lambda: groups_of(table, levels),
            lambda: failing(table, levels, (1, 1, 60)),
            lambda: is_safe(table, levels, (1, 1, 60)),
        ):
            with self.assertRaises(NoLevel) as caught:
                ask()
            self.assertIsInstance(caught.exception, MistError)
            self.assertNotIsInstance(caught.exception, (NoWorld, NoDesk, NoText, Unsafe, Tells))

    def test_a_level_that_is_none(self):
        for table in TABLES:
            levels = (0,) * len(table[0])
            for at, ladder in enumerate(table[0]):
                many = levels_of(ladder)
                for level in (-1, -many, many, many + 1, 999999999, -999999999, 10 ** 5000):
                    self.refused(table, levels[:at] + (level,) + levels[at + 1:])

    def test_not_as_many_levels_as_ladders(self):
        for table in TABLES:
            many = len(table[0])
            for wrong in (0, many - 1, many + 1, many + 5):
                self.refused(table, (0,) * wrong)

    def test_truths_are_no_levels(self):
        self.refused(NUMBERS, (True,))
        self.refused(EMPTY, (False, 0))


class Failing(unittest.TestCase):
    TABLE = ages((1, "a"), (2, "b"), (3, "a"), (11, "a"), (12, "a"), (13, "a"), (-1, "b"), (-2, "c"))
    LOW = ((-10,), (6, 7))
    MID = ((0,), (0, 1, 2))
    HIGH = ((10,), (3, 4, 5))

    def test_the_groups(self):
        self.assertEqual(groups_of(self.TABLE, (2,)), [self.LOW, self.MID, self.HIGH])

    def test_too_few_rows(self):
        for k, told in ((1, []), (2, []), (3, [self.LOW]), (4, [self.LOW, self.MID, self.HIGH])):
            self.assertEqual(failing(self.TABLE, (2,), (k, 1, 0)), told, k)

    def test_too_few_unlike_secrets(self):
        for l, told in ((1, []), (2, [self.HIGH]), (3, [self.LOW, self.MID, self.HIGH])):
            self.assertEqual(failing(self.TABLE, (2,), (1, l, 0)), told, l)

    def test_both(self):
        self.assertEqual(failing(self.TABLE, (2,), (3, 2, 0)), [self.LOW, self.HIGH])

    def test_like_secrets_count_once(self):
        table = ages(*[(1, "a")] * 9)
        self.assertEqual(failing(table, (0,), (9, 1, 0)), [])
        self.assertEqual(failing(table, (0,), (1, 2, 0)), [((1,), tuple(range(9)))])

    def test_whatever_s_is(self):
        for s in (0, 1, 5, 60, 999999999):
            self.assertEqual(failing(self.TABLE, (2,), (3, 2, s)), [self.LOW, self.HIGH])

    def test_all_are_told_of_all_coarsenings(self):
        for table in TABLES:
            for levels in coarsenings_of(table):
                for rule in RULES:
                    told = [
                        (key, numbers) for key, numbers in plainly_grouped(table, levels)
                        if len(numbers) < rule[0]
                        or len(set(table[1][number][1] for number in numbers)) < rule[1]
                    ]
                    self.assertEqual(failing(table, levels, rule), told)


class Safe(unittest.TestCase):
    def test_just_so_many_rows_and_one_more(self):
        table = Failing.TABLE
        for s, told in ((0, False), (4, False), (5, True), (6, True), (999999999, True)):
            self.assertIs(is_safe(table, (2,), (3, 2, s)), told, s)

    def test_rows_are_counted_not_groups(self):
        table = ages((1, "a"), (1, "a"), (1, "a"))
        self.assertIs(is_safe(table, (0,), (1, 2, 1)), False)
        self.assertIs(is_safe(table, (0,), (1, 2, 2)), False)
        self.assertIs(is_safe(table, (0,), (1, 2, 3)), True)

    def test_no_row_may_be_left_out(self):
        table = ages((1, "a"), (2, "b"), (60, "a"))
        self.assertIs(is_safe(table, (1,), (2, 2, 0)), False)
        self.assertIs(is_safe(table, (1,), (2, 2, 1)), True)
        self.assertIs(is_safe(table, (4,), (2, 2, 0)), True)
        self.assertIs(is_safe(table, (4,), (3, 2, 0)), True)
        self.assertIs(is_safe(table, (4,), (4, 2, 0)), False)

    def test_rules_that_nothing_fulfils(self):
        table = ages((1, "a"), (2, "b"))
        rule = (999999999, 999999999, 1)
        self.assertIs(is_safe(table, (4,), rule), False)
        self.assertIs(is_safe(table, (4,), (999999999, 999999999, 2)), True)


class Rising(unittest.TestCase):
    """What [4] rests on."""

    def pairs(self, table):
        all_levels = coarsenings_of(table)
        return [(one, other) for one in all_levels for other in all_levels if beneath(one, other)]

    def test_groups_are_put_together_and_none_is_parted(self):
        for table in TABLES:
            told = {levels: groups_of(table, levels) for levels in coarsenings_of(table)}
            for one, other in self.pairs(table):
                for _, numbers in told[one]:
                    homes = [key for key, more in told[other] if set(numbers) & set(more)]
                    self.assertEqual(len(homes), 1)

    def test_what_is_safe_stays_safe(self):
        for table in TABLES:
            all_levels = coarsenings_of(table)
            pairs = self.pairs(table)
            for rule in RULES[::5]:
                safe = {levels: is_safe(table, levels, rule) for levels in all_levels}
                for one, other in pairs:
                    self.assertTrue(safe[other] or not safe[one], (one, other, rule))


class ByNames(unittest.TestCase):
    def test_arguments_by_the_names_of_the_interface(self):
        rule = (2, 2, 0)
        self.assertIs(is_table(thing=MIXED), True)
        self.assertIs(is_rule(thing=rule), True)
        self.assertIs(beneath(one=(0, 1), other=(1, 1)), True)
        self.assertIs(beneath(other=(0, 1), one=(1, 1)), False)
        self.assertEqual(groups_of(levels=(2,), table=NUMBERS), groups_of(NUMBERS, (2,)))
        self.assertEqual(
            failing(rule=rule, levels=(2,), table=NUMBERS), failing(NUMBERS, (2,), rule))
        self.assertIs(is_safe(table=NUMBERS, levels=(4,), rule=rule), True)
        self.assertIs(is_safe(rule=rule, levels=(0,), table=NUMBERS), False)


if __name__ == "__main__":
    unittest.main()
