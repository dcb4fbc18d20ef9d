"""Promises [12], [13], and what [2] and [4] say of the border."""

import copy
import unittest

from mistgrid.border import border_holds, border_of
from mistgrid.tables import beneath, is_safe
from tests.samples import (
    EMPTY, FOUR, MIXED, NUMBERS, TABLES, WIDE, Rude, anything, coarsenings_of,
)

RULES = [(k, l, s) for k in (1, 2, 3, 7, 9) for l in (1, 2, 3) for s in (0, 1, 2, 8)] + [
    (999999999, 1, 0), (1, 999999999, 0), (999999999, 999999999, 999999999), (1, 1, 0), (2, 4, 0),
]
RULE = (2, 2, 0)
LEAST = ((3, 1, 1), (4, 0, 1), (4, 2, 0))
GREATEST = ((2, 3, 1), (3, 0, 1), (3, 3, 0), (4, 1, 0))


def plainly(table, rule):
    """The border as [12] tells it, each coarsening beside each other one."""
    all_levels = coarsenings_of(table)
    safe = [levels for levels in all_levels if is_safe(table, levels, rule)]
    unsafe = [levels for levels in all_levels if levels not in safe]
    return (
        [one for one in safe if not any(other != one and beneath(other, one) for other in safe)],
        [one for one in unsafe if not any(other != one and beneath(one, other) for other in unsafe)],
    )


def plainly_holds(table, rule, border):
    """Whether a tuple of two tuples of coarsenings is a border that holds, as [13] tells it."""
    low, high = border
    return (
        all(is_safe(table, levels, rule) for levels in low)
        and not any(is_safe(table, levels, rule) for levels in high)
        and all(list(part) == sorted(set(part)) for part in border)
        and all(
            any(beneath(one, levels) for one in low) or any(beneath(levels, one) for one in high)
            for levels in coarsenings_of(table)
        )
    )


class Told(unittest.TestCase):
    def test_several_in_each_part(self):
        self.assertEqual(border_of(MIXED, RULE), (list(LEAST), list(GREATEST)))

    def test_by_going_through_all_coarsenings(self):
        parts = 0
        for table in TABLES + (FOUR,):
            for rule in RULES:
                told = border_of(table, rule)
                self.assertEqual(told, plainly(table, rule), rule)
                parts += len(told[0]) > 1 and len(told[1]) > 1
        self.assertGreater(parts, 20)

    def test_all_safe(self):
        self.assertEqual(border_of(MIXED, (1, 1, 0)), ([(0, 0, 0)], []))
        self.assertEqual(border_of(MIXED, (9, 9, 8)), ([(0, 0, 0)], []))
        self.assertEqual(border_of(NUMBERS, (1, 1, 0)), ([(0,)], []))

    def test_none_safe(self):
        self.assertEqual(border_of(MIXED, (9, 1, 0)), ([], [(4, 3, 1)]))
        self.assertEqual(border_of(MIXED, (9, 1, 7)), ([], [(4, 3, 1)]))
        self.assertEqual(border_of(NUMBERS, (1, 4, 9)), ([], [(4,)]))

    def test_a_table_without_rows(self):
        for rule in RULES:
            self.assertEqual(border_of(EMPTY, rule), ([(0, 0)], []))

    def test_four_ladders(self):
        least, greatest = border_of(FOUR, RULE)
        self.assertEqual((least, greatest), plainly(FOUR, RULE))
        self.assertEqual({len(levels) for levels in least + greatest}, {4})

    def test_as_many_ladders_levels_and_rows_as_there_may_be(self):
        for rule in ((2, 2, 0), (3, 2, 5), (4, 3, 20)):
            least, greatest = border_of(WIDE, rule)
            self.assertGreater(min(len(least), len(greatest)), 2)
            for part in (least, greatest):
                self.assertEqual(part, sorted(set(part)))
            for levels in coarsenings_of(WIDE):
                over = any(beneath(one, levels) for one in least)
                under = any(beneath(levels, one) for one in greatest)
                self.assertNotEqual(over, under)
            self.assertTrue(all(is_safe(WIDE, levels, rule) for levels in least))
            self.assertFalse(any(is_safe(WIDE, levels, rule) for levels in greatest))
            self.assertIs(border_holds(WIDE, rule, (tuple(least), tuple(greatest))), True)

    def test_the_order_of_tuples(self):
        for table in TABLES + (FOUR,):
            for rule in RULES:
                for part in border_of(table, rule):
                    self.assertEqual(part, sorted(set(part)))

    def test_what_is_told(self):
        for table, rule in ((MIXED, RULE), (EMPTY, RULE), (NUMBERS, (9, 9, 0))):
            told = border_of(table, rule)
            self.assertEqual([type(part) for part in (told, *told)], [tuple, list, list])
            for levels in told[0] + told[1]:
                self.assertIs(type(levels), tuple)
                self.assertEqual({type(level) for level in levels}, {int})

    def test_told_lists_are_the_askers_own(self):
        for table, rule in ((MIXED, RULE), (MIXED, (1, 1, 0)), (EMPTY, RULE), (NUMBERS, (9, 9, 0))):
            before = copy.deepcopy(border_of(table, rule))
            told = border_of(table, rule)
            told[0].clear()
            told[1].append((0, 0, 0))
            told[1].reverse()
            self.assertEqual(border_of(table, rule), before)
            again = border_of(table, rule)
            again[0].append("more")
            self.assertEqual(border_of(table, rule), before)
            self.assertIs(border_holds(table, rule, (tuple(before[0]), tuple(before[1]))), True)


class Whole(unittest.TestCase):
    """What [4] says over the border."""

    def test_each_coarsening_is_on_just_one_side(self):
        for table in TABLES + (FOUR,):
            for rule in RULES:
                least, greatest = border_of(table, rule)
                for levels in coarsenings_of(table):
                    over = any(beneath(one, levels) for one in least)
                    under = any(beneath(levels, one) for one in greatest)
                    self.assertNotEqual(over, under)
                    self.assertIs(is_safe(table, levels, rule), over)


class Holding(unittest.TestCase):
    def holds(self, border, told, table=MIXED, rule=RULE):
        before = repr(border)
        self.assertIs(border_holds(table, rule, border), told, border)
        self.assertEqual(repr(border), before)

    def test_the_told_border(self):
        for table in TABLES + (FOUR,):
            for rule in RULES:
                least, greatest = border_of(table, rule)
                self.holds((tuple(least), tuple(greatest)), True, table, rule)

    def test_as_lists_it_is_none(self):
        self.holds((list(LEAST), list(GREATEST)), False)
        self.holds((LEAST, list(GREATEST)), False)
        self.holds((list(LEAST), GREATEST), False)
        self.holds([LEAST, GREATEST], False)
        self.holds(border_of(MIXED, RULE), False)
        self.holds(border_of(EMPTY, RULE), False, EMPTY)

    def test_one_left_out(self):
        for at in range(len(LEAST)):
            self.holds((LEAST[:at] + LEAST[at + 1:], GREATEST), False)
        for at in range(len(GREATEST)):
            self.holds((LEAST, GREATEST[:at] + GREATEST[at + 1:]), False)
        self.holds((LEAST, ()), False)
        self.holds(((), GREATEST), False)
        self.holds(((), ()), False)
        self.holds(((), ()), False, EMPTY)
        self.holds(((), ()), False, NUMBERS, (9, 9, 0))

    def test_one_more_at_each_place(self):
        for side, part in ((0, LEAST), (1, GREATEST)):
            for levels in coarsenings_of(MIXED):
                for at in range(len(part) + 1):
                    border = [LEAST, GREATEST]
                    border[side] = part[:at] + (levels,) + part[at:]
                    told = plainly_holds(MIXED, RULE, tuple(border))
                    right = is_safe(MIXED, levels, RULE) == (side == 0)
                    rising = list(border[side]) == sorted(set(border[side]))
                    self.assertIs(told, right and rising)
                    self.holds(tuple(border), told)

    def test_all_safe_ones_and_all_unsafe_ones(self):
        for table in TABLES + (FOUR,):
            for rule in RULES:
                all_levels = coarsenings_of(table)
                safe = tuple(levels for levels in all_levels if is_safe(table, levels, rule))
                unsafe = tuple(levels for levels in all_levels if levels not in safe)
                self.holds((safe, unsafe), True, table, rule)
                self.holds((safe, unsafe[1:]), unsafe[1:] == unsafe or unsafe[0] not in plainly(table, rule)[1],
                           table, rule)
                self.holds((safe[1:], unsafe), safe == (), table, rule)

    def test_all_coarsenings_of_a_wide_table(self):
        rule = (4, 3, 20)
        least, greatest = border_of(WIDE, rule)
        safe, unsafe = [], []
        for levels in coarsenings_of(WIDE):
            (safe if any(beneath(one, levels) for one in least) else unsafe).append(levels)
        self.holds((tuple(safe), tuple(unsafe)), True, WIDE, rule)
        self.holds((tuple(safe), tuple(greatest)), True, WIDE, rule)
        self.holds((tuple(safe), tuple(greatest[1:])), False, WIDE, rule)
        self.holds((tuple(least[:-1]), tuple(unsafe)), False, WIDE, rule)

    def test_one_twice(self):
        for at in range(len(LEAST)):
            self.holds((LEAST[:at] + LEAST[at:at + 1] + LEAST[at:], GREATEST), False)
        for at in range(len(GREATEST)):
            self.holds((LEAST, GREATEST[:at] + GREATEST[at:at + 1] + GREATEST[at:]), False)
        self.holds((LEAST + LEAST, GREATEST), False)

    def test_two_exchanged(self):
        self.holds((LEAST[1:2] + LEAST[:1] + LEAST[2:], GREATEST), False)
        self.holds((LEAST, GREATEST[:2] + GREATEST[3:] + GREATEST[2:3]), False)
        self.holds((LEAST[::-1], GREATEST[::-1]), False)

    def test_both_parts_exchanged(self):
        for table in TABLES + (FOUR,):
            for rule in RULES:
                least, greatest = border_of(table, rule)
                self.holds((tuple(greatest), tuple(least)), False, table, rule)

    def test_on_the_wrong_side(self):
        top, bottom = (4, 3, 1), (0, 0, 0)
        self.holds((LEAST, GREATEST + (top,)), False)
        self.holds(((bottom,) + LEAST, GREATEST), False)
        self.holds(((bottom,), ()), False)
        self.holds(((), (top,)), False)
        self.holds(((bottom,), (top,)), False)
        self.holds(((top,), ()), False)
        self.holds(((), (bottom,)), False)

    def test_levels_that_are_none(self):
        others = (999999999, -999999999, 10 ** 5000, None, True, False, 1.0, "1", (), (1,), [1], [], {})
        for level in (-1, -2, 2, 3) + others:
            self.nowhere((4, 3, level))
        for level in (-1, -5, 5, 6) + others:
            self.nowhere((level, 0, 1))
            self.nowhere((level, 3, 1))
        for level in (-1, -4, 4, 5) + others:
            self.nowhere((4, level, 1))

    def nowhere(self, levels):
        for at in range(len(LEAST) + 1):
            self.wrongly((LEAST[:at] + (levels,) + LEAST[at:], GREATEST))
        for at in range(len(GREATEST) + 1):
            self.wrongly((LEAST, GREATEST[:at] + (levels,) + GREATEST[at:]))

    def wrongly(self, border):
        self.assertIs(border_holds(MIXED, RULE, border), False)

    def test_truths_in_the_place_of_their_numbers(self):
        self.holds(((0,),), False, NUMBERS, (1, 1, 0))
        self.holds((((0,),), ()), True, NUMBERS, (1, 1, 0))
        self.holds((((False,),), ()), False, NUMBERS, (1, 1, 0))
        self.holds((((3, 1, True),) + LEAST[1:], GREATEST), False)
        self.holds((((3, True, 1),) + LEAST[1:], GREATEST), False)
        self.holds((LEAST, GREATEST[:-1] + ((4, 1, False),)), False)
        self.holds((((3.0, 1, 1),) + LEAST[1:], GREATEST), False)

    def test_lists_in_the_place_of_coarsenings(self):
        self.holds(((list(LEAST[0]),) + LEAST[1:], GREATEST), False)
        self.holds((LEAST, GREATEST[:-1] + (list(GREATEST[-1]),)), False)

    def test_coarsenings_too_long_and_too_short(self):
        for wrong in ((), (3,), (3, 1), (3, 1, 1, 0), (3, 1, 1, 1, 1), (0,) * 1000):
            self.holds(((wrong,) + LEAST[1:], GREATEST), False)
            self.holds((tuple(sorted(LEAST + (wrong,))), GREATEST), False)
            self.holds((LEAST, tuple(sorted(GREATEST + (wrong,)))), False)

    def test_parts_too_few_and_too_many(self):
        for border in ((), (LEAST,), (LEAST, GREATEST, ()), (LEAST, GREATEST, GREATEST), ((LEAST, GREATEST),),
                       LEAST, LEAST + GREATEST, LEAST[:2]):
            self.holds(border, False)

    def test_of_anything(self):
        for table in (MIXED, EMPTY, NUMBERS):
            least, greatest = (tuple(part) for part in border_of(table, RULE))
            for thing in anything():
                # A part without coarsenings is told of in other tests.
                if type(thing) is tuple and len(thing) == 0:
                    continue
                for border in (
                    thing, (thing,), (thing, thing), (least, thing), (thing, greatest),
                    (least, greatest, thing), (least + (thing,), greatest), ((thing,) + least, greatest),
                    (least, greatest + (thing,)), ((thing,), ()), ((), (thing,)), (((thing,),), ()),
                    (((thing, thing),), ()), (((thing, 1, 1),), ()), (least, greatest + ((thing,),)),
                    (least, greatest + ((4, 1, thing),)),
                ):
                    self.assertIs(border_holds(table, RULE, border), False)

    def test_objects_of_other_classes(self):
        class Part(tuple):
            pass

        self.holds((Part(LEAST), GREATEST), False)
        self.holds(Part((LEAST, GREATEST)), False)
        self.wrongly((Rude(), Rude()))
        self.wrongly(((Rude(),), (Rude(),)))
        self.wrongly((((Rude(), 1, 1),), GREATEST))


class Asked(unittest.TestCase):
    def test_arguments_by_the_names_of_the_interface(self):
        self.assertEqual(border_of(rule=RULE, table=MIXED), (list(LEAST), list(GREATEST)))
        self.assertIs(border_holds(border=(LEAST, GREATEST), rule=RULE, table=MIXED), True)
        self.assertIs(border_holds(table=MIXED, rule=RULE, border=None), False)

    def test_what_is_handed_in_stays_as_it_is(self):
        table, border = copy.deepcopy(MIXED), (list(LEAST), [list(GREATEST[0])])
        before = copy.deepcopy(border)
        border_of(table, RULE)
        border_holds(table, RULE, border)
        self.assertEqual((table, border), (MIXED, before))


if __name__ == "__main__":
    unittest.main()
