"""Promise [17], and what [2], [3] and [4] say of releases."""

import copy
import unittest

from mistgrid.errors import MistError, NoDesk, NoLevel, NoText, NoWorld, Tells, Unsafe
from mistgrid.ladders import levels_of
from mistgrid.releases import is_release, release_of
from mistgrid.tables import failing, groups_of, is_safe
from mistgrid.texts import read_release, show_release
from tests.samples import (
    AGES, EIGHT, EMPTY, FOUR, MIXED, NUMBERS, PLACES, PLAIN, SHORT, TABLES, WIDE, Rude, anything,
    coarsenings_of, is_among,
)

RULES = [(k, l, s) for k in (1, 2, 3, 9) for l in (1, 2, 3) for s in (0, 1, 2, 3, 8, 60)]
RULE = (2, 2, 0)
BIG = 999999999


def plainly(table, levels, rule):
    """The release as [17] tells it, row by row."""
    ladders, rows = table
    bad = [number for _, numbers in failing(table, levels, rule) for number in numbers]
    groups = []
    for key, numbers in groups_of(table, levels):
        if numbers[0] not in bad:
            groups.append((key, tuple(sorted(rows[number][1] for number in numbers))))
    return (levels, tuple(groups))


class Released(unittest.TestCase):
    def test_by_hand(self):
        self.assertEqual(
            release_of(MIXED, (4, 0, 1), RULE),
            ((4, 0, 1), (
                (("*", "dover", "*"), ("flu", "gout")), (("*", "hull", "*"), ("cold", "flu")),
                (("*", "york", "*"), ("cold", "cold", "flu", "flu")),
            )),
        )

    def test_keys_in_their_order_and_secrets_by_letters(self):
        rows = (((7,), "b"), ((-1,), "c"), ((7,), "a"), ((100,), "b"), ((-1,), "a"), ((100,), "c"),
                ((7,), "b"), ((9,), "a"), ((9,), "c"), ((-1,), "c"))
        self.assertEqual(
            release_of(((PLAIN,), rows), (0,), RULE),
            ((0,), (((-1,), ("a", "c", "c")), ((7,), ("a", "b", "b")), ((9,), ("a", "c")),
                    ((100,), ("b", "c")))),
        )

    def test_groups_left_out(self):
        rows = (((7,), "b"), ((7,), "a"), ((9,), "a"), ((9,), "a"), ((1,), "c"))
        table = ((PLAIN,), rows)
        for s in (3, 4, 60, BIG):
            self.assertEqual(release_of(table, (0,), (2, 2, s)), ((0,), (((7,), ("a", "b")),)))
        self.assertEqual(
            release_of(table, (0,), (2, 1, 1)), ((0,), (((7,), ("a", "b")), ((9,), ("a", "a")))))
        self.assertEqual(release_of(table, (0,), (3, 1, 5)), ((0,), ()))
        self.assertEqual(release_of(table, (1,), RULE), ((1,), ((("*",), ("a", "a", "a", "b", "c")),)))

    def test_no_groups(self):
        for levels in coarsenings_of(MIXED):
            self.assertEqual(release_of(MIXED, levels, (9, 1, 8)), (levels, ()))

    def test_a_table_without_rows(self):
        for levels in coarsenings_of(EMPTY):
            for rule in (RULE, (1, 1, 0), (9, 9, 60)):
                self.assertEqual(release_of(EMPTY, levels, rule), (levels, ()))
        with self.assertRaises(NoLevel):
            release_of(EMPTY, (5, 0), RULE)

    def test_all_coarsenings(self):
        for table in TABLES + (FOUR,):
            for levels in coarsenings_of(table):
                for rule in RULES:
                    if is_safe(table, levels, rule):
                        told = release_of(table, levels, rule)
                        self.assertEqual(told, plainly(table, levels, rule))
                        self.assertIs(is_release(table[0], told), True)
                        self.assertIs(type(told), tuple)
                        self.assertEqual([type(part) for part in told], [tuple, tuple])

    def test_the_greatest_table(self):
        for levels in ((7, 7, 7, 7), (0, 0, 0, 0), (6, 6, 7, 7), (5, 7, 6, 7)):
            told = release_of(WIDE, levels, (1, 1, 0))
            self.assertEqual(told, plainly(WIDE, levels, (1, 1, 0)))
            self.assertIs(is_release(WIDE[0], told), True)


class Refused(unittest.TestCase):
    def refused(self, refusal, *asked):
        before = copy.deepcopy(asked)
        with self.assertRaises(refusal) as caught:
            release_of(*asked)
        self.assertEqual(asked, before)
        self.assertIsInstance(caught.exception, MistError)
        self.assertIsInstance(caught.exception, ValueError)
        for other in (NoLevel, NoText, NoWorld, NoDesk, Unsafe, Tells):
            self.assertEqual(isinstance(caught.exception, other), other is refusal)
        return caught.exception

    def test_unsafe_by_hand(self):
        rows = (((7,), "b"), ((7,), "a"), ((9,), "a"), ((9,), "a"), ((1,), "c"), ((-2,), "c"))
        table = ((PLAIN,), rows)
        self.assertEqual(self.refused(Unsafe, table, (0,), (2, 2, 3)).keys_told, ((-2,), (1,), (9,)))
        self.assertEqual(self.refused(Unsafe, table, (0,), (2, 2, 0)).keys_told, ((-2,), (1,), (9,)))
        self.assertEqual(self.refused(Unsafe, table, (0,), (2, 1, 1)).keys_told, ((-2,), (1,)))
        self.assertEqual(self.refused(Unsafe, table, (1,), (7, 1, 5)).keys_told, (("*",),))
        self.assertEqual(release_of(table, (0,), (2, 2, 4)), ((0,), (((7,), ("a", "b")),)))

    def test_all_unsafe_coarsenings(self):
        for table in TABLES + (FOUR,):
            for levels in coarsenings_of(table):
                for rule in RULES:
                    if not is_safe(table, levels, rule):
                        keys = self.refused(Unsafe, table, levels, rule).keys_told
                        self.assertIs(type(keys), tuple)
                        self.assertEqual(keys, tuple(key for key, _ in failing(table, levels, rule)))
                        self.assertEqual(list(keys), sorted(keys))

    def test_no_level_ahead_of_unsafe(self):
        for table in TABLES + (FOUR,):
            many = len(table[0])
            wrong = [(0,) * (many - 1), (0,) * (many + 1), ()]
            for at, ladder in enumerate(table[0]):
                for level in (-1, levels_of(ladder), BIG, -BIG):
                    wrong.append((0,) * at + (level,) + (0,) * (many - at - 1))
            for levels in wrong:
                # Nothing is safe by the one rule, all by the other one.
                for rule in ((BIG, BIG, 0), (1, 1, 60)):
                    self.refused(NoLevel, table, levels, rule)


LADDERS = (AGES, PLACES)
RIGHT = ((1, 1), (((-5, "south"), ("cold",)), ((5, "north"), ("cold", "flu", "flu"))))


class Releases(unittest.TestCase):
    def no_release(self, thing, ladders=LADDERS):
        self.assertIs(is_release(ladders, thing), False)

    def no_group(self, group):
        """Of what cannot stand as a group at the levels of RIGHT."""
        self.no_release(((1, 1), (group,)))
        self.no_release(((1, 1), (((-10, "north"), ("a",)), group)))
        self.no_release(((1, 1), (group, ((50, "south"), ("a",)))))

    def test_releases(self):
        for thing in (
            RIGHT, ((1, 1), ()), ((0, 0), ()), ((4, 3), ()), ((4, 3), ((("*", "*"), ("a",)),)),
            ((1, 1), RIGHT[1][:1]), ((1, 1), RIGHT[1][1:]), ((0, 0), (((7, "york"), ("a",) * 100),)),
            ((3, 2), (((-50, "land"), ("abcdefghijkl",)), ((0, "land"), ("z",)))),
        ):
            self.assertIs(is_release(LADDERS, thing), True, thing)

    def test_many_groups(self):
        groups = tuple(((number,), ("flu",) * 3) for number in range(-100, 100))
        self.assertIs(is_release((PLAIN,), ((0,), groups)), True)
        self.no_release(((0,), groups[::-1]), (PLAIN,))

    def test_one_to_four_ladders(self):
        for many in range(1, 5):
            told = ((1,) * many, ((("*",) * many, ("a",)),))
            for ladders in range(1, 5):
                self.assertIs(is_release((SHORT,) * ladders, told), many == ladders)

    def test_another_thing_in_each_place(self):
        levels, groups = RIGHT
        # Each place with what is right there of all that is put into it.
        names = ("num", "dover", "land")
        places = (
            (lambda thing: thing, ()),
            (lambda thing: (thing,), ()),
            (lambda thing: (thing, groups), ()),
            (lambda thing: (levels, thing), ((),)),
            (lambda thing: (levels, groups, thing), ()),
            (lambda thing: ((thing, 1), groups), ()),
            (lambda thing: ((1, thing), groups), ()),
            (lambda thing: (levels, (thing,)), ()),
            (lambda thing: (levels, (thing,) + groups), ()),
            (lambda thing: (levels, groups + (thing,)), ()),
            (lambda thing: (levels, ((thing, ("a",)),)), ()),
            (lambda thing: (levels, (((thing, "north"), ("a",)),)), ()),
            (lambda thing: (levels, (((5, thing), ("a",)),)), ()),
            (lambda thing: (levels, (((5, "north"), thing),)), (("num",), ("a", "b", "c"))),
            (lambda thing: (levels, (((5, "north"), (thing,)),)), names),
            (lambda thing: (levels, (((5, "north"), ("a", thing)),)), names),
            (lambda thing: (levels, (((5, "north"), (thing, "z")),)), names),
        )
        things = anything() + [7, -1, 9, 10 ** 5000, "dover", "land", (1, 1, 1), ("north", 5)]
        for place, rights in places:
            for thing in things:
                self.assertIs(is_release(LADDERS, place(thing)), is_among(thing, rights))

    def test_tuples_too_short_and_too_long(self):
        levels, groups = RIGHT
        for wrong in ((), (levels,), (levels, groups, ()), (levels, groups, groups), groups, levels,
                      ((), groups), ((1,), groups), ((1, 1, 1), groups), ((), ()), ((1,), ()),
                      ((1, 1, 1), ())):
            self.no_release(wrong)
        for group in ((), ((5, "north"),), ((5, "north"), ("a",), ("a",)), ((5,), ("a",)), ((), ("a",)),
                      ((5, "north", "north"), ("a",)), (5, "north", "a"), ((5, "north"), "a")):
            self.no_group(group)

    def test_lists_in_the_place_of_tuples(self):
        levels, groups = RIGHT
        for wrong in ([levels, groups], (list(levels), groups), (levels, list(groups)), (levels, []),
                      (levels, [list(part) for part in groups]), (levels, {}), (levels, {groups[0]: True})):
            self.no_release(wrong)
        for group in ([(5, "north"), ("a",)], ([5, "north"], ("a",)), ((5, "north"), ["a"]),
                      ((5, "north"), {"a": True}), ((5, "north"), {"a"}), ({5: "north"}, ("a",))):
            self.no_group(group)

    def test_levels(self):
        for level in (-1, 5, 6, BIG, -BIG, 10 ** 30, True, False, None, 1.0, "1", "", (1,), [1]):
            self.no_release(((level, 1), ()))
        for level in (-1, 4, 5, True, None, "1"):
            self.no_release(((1, level), ()))
        for ladder in (PLAIN, AGES, EIGHT, PLACES, SHORT):
            many = levels_of(ladder)
            for level in range(-2, many + 3):
                self.assertIs(is_release((ladder,), ((level,), ())), 0 <= level < many)

    def test_keys_out_of_order_and_twice(self):
        one, other = RIGHT[1]
        third = ((5, "south"), ("a",))
        self.assertIs(is_release(LADDERS, ((1, 1), (one, other, third))), True)
        for groups in ((other, one), (one, one), (one, other, other), (one, other, one), (third, other),
                       (one, third, other), (other, one, third), (one, one, other),
                       (((5, "north"), ("a",)), ((5, "north"), ("b",)))):
            self.no_release(((1, 1), groups))
        self.no_release(((4, 3), ((("*", "*"), ("a",)), (("*", "*"), ("b",)))))

    def test_keys_rise_as_numbers_do_not_as_words(self):
        self.assertIs(is_release((PLAIN,), ((0,), (((9,), ("a",)), ((100,), ("a",))))), True)
        self.assertIs(is_release((PLAIN,), ((0,), (((-20,), ("a",)), ((-3,), ("a",))))), True)
        self.no_release(((0,), (((100,), ("a",)), ((9,), ("a",)))), (PLAIN,))
        self.no_release(((0,), (((-3,), ("a",)), ((-20,), ("a",)))), (PLAIN,))

    def test_parts_that_values_are_at_another_level(self):
        for part in (3, 12, -1, "*", "north", True, None, "5", 5.0, "", (5,), [5], 1000000000, -1000000005):
            self.no_group(((part, "north"), ("a",)))
        for part in ("york", "land", "*", "leeds", 5, "", "North", None, True, ("north",), ["north"]):
            self.no_group(((5, part), ("a",)))
        self.no_group((("north", 5), ("a",)))
        for ladder, level, right, wrong in (
            (PLAIN, 0, (0, 5, BIG, -BIG), ("*", "a", BIG + 1, -BIG - 1, True, False, 0.0)),
            (PLAIN, 1, ("*",), (0, 5, -5, "a", "**", "", ("*",))),
            (AGES, 1, (0, 5, -5, 999999995, -1000000000), (1, "*", 1000000000, -1000000005, -BIG, True, False)),
            (AGES, 3, (0, 50, -50, 999999950, -1000000000), (25, 5, "*", 1000000000, -1000000050)),
            (AGES, 4, ("*",), (0, 50, -50)),
            (("num", (999999998,)), 1, (0, 999999998, -999999998, -1999999996),
             (-2999999994, 1999999996, BIG, 1, -BIG, -1999999995)),
            (("num", (BIG,)), 1, (0, BIG, -BIG), (-2 * BIG, 2 * BIG, 1)),
            (("num", (2,)), 1, (0, -2, 999999998, -1000000000), (1, -BIG, 1000000000, -1000000002)),
            (PLACES, 0, ("york", "hull", "dover"), ("north", "land", "*", "leeds", 0)),
            (PLACES, 1, ("north", "south"), ("york", "land", "*", "west", 1)),
            (PLACES, 2, ("land",), ("york", "north", "*")),
            (PLACES, 3, ("*",), ("york", "north", "land", 0, "**")),
            (SHORT, 0, ("yes", "no"), ("*", "maybe", "y")),
            (SHORT, 1, ("*",), ("yes", "no")),
        ):
            for part in right:
                self.assertIs(is_release((ladder,), ((level,), (((part,), ("a",)),))), True, (level, part))
            for part in wrong:
                self.no_release(((level,), (((part,), ("a",)),)), (ladder,))

    def test_secrets(self):
        for secrets in (("a",), ("a", "a"), ("abcdefghijkl",), ("a", "b"), ("a", "a", "b", "b", "c")):
            self.assertIs(is_release(LADDERS, ((1, 1), (((5, "north"), secrets),))), True)
        for secrets in ((), ("flu", "cold"), ("a", "b", "a"), ("b", "a"), ("Cold",), ("cold", "Flu"), ("co1d",),
                        ("",), ("a b",), ("*",), ("abcdefghijklm",), ("a", "abcdefghijklm"), (5,), ("a", 5),
                        (None,), (True,), ("a", None), (("a",),), (["a"],), (b"a",), "a", "ab", None, 5, True,
                        (Rude(),), ("a", Rude()), (Rude(), "a")):
            self.no_group(((5, "north"), secrets))

    def test_truths_in_the_place_of_their_numbers(self):
        self.assertIs(is_release((PLAIN, PLAIN), ((1, 0), ((("*", 1), ("a",)),))), True)
        for wrong in (((True, 0), ((("*", 1), ("a",)),)), ((1, False), ((("*", 1), ("a",)),)),
                      ((1, 0), ((("*", True), ("a",)),))):
            self.no_release(wrong, (PLAIN, PLAIN))

    def test_for_other_ladders(self):
        self.no_release(RIGHT, (PLACES, AGES))
        self.no_release(RIGHT, (AGES,))
        self.no_release(RIGHT, (AGES, PLACES, SHORT))
        self.no_release(RIGHT, (("num", (10, 50)), PLACES))

    def test_just_what_is_read_back(self):
        for table in TABLES + (FOUR,):
            for levels in coarsenings_of(table)[::3]:
                told = release_of(table, levels, (2, 1, 60))
                self.assertEqual(read_release(table[0], show_release(told)), told)


class Asked(unittest.TestCase):
    def test_arguments_by_the_names_of_the_interface(self):
        told = ((4,), ((("*",), ("a",) * 4 + ("b",) * 3 + ("c",) * 3),))
        self.assertEqual(release_of(table=NUMBERS, levels=(4,), rule=RULE), told)
        self.assertEqual(release_of(rule=RULE, levels=(4,), table=NUMBERS), told)
        self.assertIs(is_release(ladders=NUMBERS[0], thing=told), True)
        self.assertIs(is_release(thing=told, ladders=(PLAIN,)), False)

    def test_what_is_handed_in_stays_as_it_is(self):
        things = [[[1, 1], []], ((1, 1), [[(5, "north"), ["a"]]])]
        before = copy.deepcopy(things)
        for _ in range(2):
            for thing in things:
                self.assertIs(is_release(LADDERS, thing), False)
        self.assertEqual(things, before)
        table = copy.deepcopy(MIXED)
        first = release_of(table, (4, 0, 1), RULE)
        self.assertEqual(release_of(table, (4, 0, 1), RULE), first)
        self.assertEqual(table, MIXED)


if __name__ == "__main__":
    unittest.main()
