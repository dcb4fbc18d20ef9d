"""Promises [14], [15], [16], and what [2], [3] and [4] say of losses."""

import copy
import unittest
from itertools import product

from mistgrid import losses
from mistgrid.errors import MistError, NoDesk, NoLevel, NoText, NoWorld, Tells, Unsafe
from mistgrid.ladders import levels_of
from mistgrid.losses import OUT, bound_of, least_loss, loss_of, loss_paper, paper_holds
from mistgrid.tables import beneath, failing, is_safe
from tests.samples import (
    AGES, EMPTY, FOUR, MIXED, NUMBERS, PLAIN, TABLES, WIDE, Rude, anything, coarsenings_of,
)

RULES = [(k, l, s) for k in (1, 2, 3, 9) for l in (1, 2, 3) for s in (0, 1, 2, 8, 60)]
RULE = (2, 2, 0)
MILLION = 1000000
MIXED_COSTS = ((0, 1, 2, 5, 9), (0, 3, 3, 10), (0, 4))
AGES_COSTS = ((0, 1, 2, 5, 9),)


def all_costs(table):
    """Costs of several kinds for the table: rising, flat, steep, and so that many losses are like."""
    for told in (
        lambda at, level: level * (at + 1), lambda at, level: 0, lambda at, level: 7,
        lambda at, level: level ** 3 * 10, lambda at, level: level // 2, lambda at, level: MILLION,
    ):
        yield tuple(
            tuple(told(at, level) for level in range(levels_of(ladder)))
            for at, ladder in enumerate(table[0])
        )


def rows_out(table, levels, rule):
    return sum(len(numbers) for _, numbers in failing(table, levels, rule))


def plain_loss(table, levels, rule, costs, out):
    """The loss as [14] tells it, row by row."""
    bad = [number for _, numbers in failing(table, levels, rule) for number in numbers]
    loss = 0
    for number in range(len(table[1])):
        if number in bad:
            loss += out
        else:
            for at, level in enumerate(levels):
                loss += costs[at][level]
    return loss


def plain_bound(table, rule, costs, box, out):
    """The bound as [15] tells it."""
    low, high = box
    n, f, t = len(table[1]), rows_out(table, high, rule), min(rule[2], len(table[1]))
    a = sum(costs[at][level] for at, level in enumerate(low))
    if f > t:
        return None
    if low == high:
        return plain_loss(table, low, rule, costs, out)
    return min((n - f) * a + f * out, (n - t) * a + t * out)


def inside(table, box):
    return [levels for levels in coarsenings_of(table) if beneath(box[0], levels) and beneath(levels, box[1])]


def plain_holds(table, rule, costs, told, paper, out):
    """Whether a tuple of boxes holds, as [16] tells it."""
    taken = sorted(levels for box in paper for levels in inside(table, box))
    if taken != coarsenings_of(table):
        return False
    bounds = [plain_bound(table, rule, costs, box, out) for box in paper]
    if told is None:
        return bounds == [None] * len(bounds)
    return (
        all(bound is None or bound >= told[0] for bound in bounds)
        and is_safe(table, told[1], rule)
        and plain_loss(table, told[1], rule, costs, out) == told[0]
    )


class Losses(unittest.TestCase):
    # At level 2: -10 with b c, 0 with a b a, 10 with a a a.
    TABLE = ((AGES,), tuple(((age,), secret) for age, secret in zip(
        (1, 2, 3, 11, 12, 13, -1, -2), "a b a a a a b c".split())))
    COSTS = ((0, 1, 4, 10, 100),)

    def test_rows_left_out_and_none(self):
        for rule, told in (((1, 1, 0), 8 * 4), ((2, 2, 0), 5 * 4 + 3 * 50), ((3, 2, 0), 3 * 4 + 5 * 50),
                           ((3, 1, 0), 6 * 4 + 2 * 50), ((4, 1, 0), 8 * 50)):
            self.assertEqual(loss_of(self.TABLE, (2,), rule, self.COSTS), told, rule)

    def test_safe_or_not(self):
        for s in (0, 2, 3, 60, 999999999):
            self.assertEqual(loss_of(self.TABLE, (2,), (2, 2, s), self.COSTS), 5 * 4 + 3 * 50)
        self.assertIs(is_safe(self.TABLE, (2,), (2, 2, 2)), False)
        self.assertIs(is_safe(self.TABLE, (2,), (2, 2, 3)), True)

    def test_out(self):
        self.assertEqual(OUT, 50)
        self.assertIs(type(losses.OUT), int)
        for out in (0, 1, 50, 51, MILLION):
            self.assertEqual(loss_of(self.TABLE, (2,), RULE, self.COSTS, out=out), 5 * 4 + 3 * out)
        self.assertEqual(loss_of(self.TABLE, (2,), (1, 1, 0), self.COSTS, out=MILLION), 8 * 4)

    def test_costs_of_all_ladders(self):
        self.assertEqual(loss_of(MIXED, (0, 0, 0), (1, 1, 0), MIXED_COSTS), 0)
        self.assertEqual(loss_of(MIXED, (4, 3, 1), (1, 1, 0), MIXED_COSTS), 8 * 23)
        self.assertEqual(loss_of(MIXED, (1, 2, 0), (1, 1, 0), MIXED_COSTS), 8 * 4)
        self.assertEqual(loss_of(MIXED, (4, 0, 1), RULE, MIXED_COSTS), 8 * 13)
        self.assertEqual(loss_of(MIXED, (3, 0, 1), RULE, MIXED_COSTS), 6 * 9 + 2 * 50)

    def test_all_coarsenings(self):
        for table in TABLES + (FOUR,):
            for costs in all_costs(table):
                for rule in RULES[::7]:
                    for levels in coarsenings_of(table):
                        for out in (0, 3, 50):
                            told = loss_of(table, levels, rule, costs, out=out)
                            self.assertIs(type(told), int)
                            self.assertEqual(told, plain_loss(table, levels, rule, costs, out))

    def test_a_table_without_rows(self):
        for levels in coarsenings_of(EMPTY):
            self.assertEqual(loss_of(EMPTY, levels, RULE, ((7,) * 5, (7, 7))), 0)

    def test_the_greatest_costs(self):
        costs = ((MILLION,) * 8,) * 4
        self.assertEqual(loss_of(WIDE, (7, 7, 7, 7), (1, 1, 0), costs), 240000000)
        self.assertEqual(loss_of(WIDE, (0, 0, 0, 0), (61, 1, 0), costs, out=MILLION), 60000000)

    def test_no_level(self):
        for table in TABLES + (FOUR,):
            many = len(table[0])
            costs = tuple((1,) * levels_of(ladder) for ladder in table[0])
            wrong = [(0,) * (many - 1), (0,) * (many + 1), ()]
            for at, ladder in enumerate(table[0]):
                for level in (-1, levels_of(ladder), 999999999, -999999999):
                    wrong.append((0,) * at + (level,) + (0,) * (many - at - 1))
            for levels in wrong:
                for rule in (RULE, (1, 1, 60)):
                    with self.assertRaises(NoLevel) as caught:
                        loss_of(table, levels, rule, costs)
                    self.assertIsInstance(caught.exception, MistError)
                    self.assertIsInstance(caught.exception, ValueError)
                    self.assertNotIsInstance(caught.exception, (NoText, NoWorld, NoDesk, Unsafe, Tells))


class Bounds(unittest.TestCase):
    TABLE, COSTS = Losses.TABLE, Losses.COSTS

    def test_no_bound(self):
        # At level 2 three rows are left out by (2, 2, s), at level 3 none.
        for s in (0, 1, 2):
            self.assertIsNone(bound_of(self.TABLE, (2, 2, s), self.COSTS, ((0,), (2,))))
            self.assertIsNone(bound_of(self.TABLE, (2, 2, s), self.COSTS, ((2,), (2,))))
        self.assertIsNotNone(bound_of(self.TABLE, (2, 2, 3), self.COSTS, ((0,), (2,))))
        self.assertIsNotNone(bound_of(self.TABLE, (2, 2, 0), self.COSTS, ((0,), (3,))))
        self.assertIsNone(bound_of(self.TABLE, (9, 1, 7), self.COSTS, ((4,), (4,))))

    def test_low_is_high(self):
        self.assertEqual(bound_of(self.TABLE, (2, 2, 3), self.COSTS, ((2,), (2,))), 5 * 4 + 3 * 50)
        # Not the other term, though it is the lesser one.
        self.assertEqual(bound_of(self.TABLE, (2, 2, 5), self.COSTS, ((2,), (2,)), out=0), 5 * 4)
        self.assertEqual(bound_of(self.TABLE, (2, 2, 8), self.COSTS, ((3,), (3,)), out=3), 8 * 10)

    def test_either_term_the_lesser_one(self):
        # f is 3 at level 2, and t is 5; a is 1 at level 1.
        box = ((1,), (2,))
        self.assertEqual(bound_of(self.TABLE, (2, 2, 5), self.COSTS, box), 5 * 1 + 3 * 50)
        self.assertEqual(bound_of(self.TABLE, (2, 2, 5), self.COSTS, box, out=0), 3 * 1)
        self.assertEqual(bound_of(self.TABLE, (2, 2, 5), self.COSTS, box, out=1), 8)
        self.assertEqual(bound_of(self.TABLE, (2, 2, 5), self.COSTS, box, out=2), 5 * 1 + 3 * 2)

    def test_s_greater_than_the_rows(self):
        for s in (8, 9, 60, 999999999):
            self.assertEqual(bound_of(self.TABLE, (2, 2, s), self.COSTS, ((2,), (3,)), out=1), 8)
            self.assertEqual(bound_of(self.TABLE, (9, 9, s), self.COSTS, ((1,), (4,)), out=3), 24)
            self.assertEqual(bound_of(self.TABLE, (2, 2, s), self.COSTS, ((2,), (3,))), 8 * 4)

    def test_out_left_out_and_told(self):
        box = ((2,), (2,))
        self.assertEqual(
            bound_of(self.TABLE, (2, 2, 3), self.COSTS, box),
            bound_of(self.TABLE, (2, 2, 3), self.COSTS, box, out=50),
        )
        self.assertEqual(bound_of(self.TABLE, (2, 2, 3), self.COSTS, box, out=7), 5 * 4 + 3 * 7)

    def test_all_boxes(self):
        for table in (NUMBERS, EMPTY, MIXED):
            all_levels = coarsenings_of(table)
            boxes = [(low, high) for low in all_levels for high in all_levels if beneath(low, high)]
            for costs in all_costs(table):
                for rule in RULES[::11]:
                    for box in boxes[::3]:
                        told = bound_of(table, rule, costs, box, out=5)
                        self.assertEqual(told, plain_bound(table, rule, costs, box, 5))

    def test_no_safe_coarsening_in_the_box_has_a_loss_below_the_bound(self):
        for table in (NUMBERS, FOUR):
            all_levels = coarsenings_of(table)
            boxes = [(low, high) for low in all_levels for high in all_levels if beneath(low, high)][::5]
            for costs in all_costs(table):
                for rule in RULES[::9]:
                    safe = {
                        levels: plain_loss(table, levels, rule, costs, 9)
                        for levels in all_levels if is_safe(table, levels, rule)
                    }
                    for box in boxes:
                        bound = bound_of(table, rule, costs, box, out=9)
                        for levels in inside(table, box):
                            if levels in safe:
                                self.assertLessEqual(bound, safe[levels])

    def test_a_table_without_rows(self):
        self.assertEqual(bound_of(EMPTY, RULE, ((7,) * 5, (7, 7)), ((0, 0), (4, 1))), 0)
        self.assertEqual(bound_of(EMPTY, RULE, ((7,) * 5, (7, 7)), ((3, 1), (3, 1))), 0)


class Least(unittest.TestCase):
    def test_by_hand(self):
        self.assertEqual(least_loss(MIXED, RULE, MIXED_COSTS), (8 * 12, (3, 1, 1)))
        self.assertEqual(least_loss(MIXED, (1, 1, 0), MIXED_COSTS), (0, (0, 0, 0)))
        self.assertEqual(least_loss(NUMBERS, (2, 2, 2), AGES_COSTS), (10 * 9, (4,)))
        self.assertEqual(least_loss(NUMBERS, (2, 2, 2), AGES_COSTS, out=10), (60, (3,)))

    def test_out(self):
        # At level 3 two rows are left out, at level 4 none.
        for out, told in ((24, (88, (3,))), (25, (90, (3,))), (26, (90, (4,))), (50, (90, (4,)))):
            self.assertEqual(least_loss(NUMBERS, (2, 2, 2), ((0, 1, 2, 5, 9),), out=out), told)

    def test_the_first_of_several(self):
        flat = ((4,) * 5, (4,) * 4, (4,) * 2)
        self.assertEqual(least_loss(MIXED, RULE, flat), (8 * 12, (3, 1, 1)))
        self.assertEqual(least_loss(MIXED, (1, 1, 0), flat), (8 * 12, (0, 0, 0)))
        self.assertEqual(least_loss(MIXED, (2, 2, 8), flat, out=0), (2 * 12, (0, 0, 0)))
        self.assertEqual(least_loss(MIXED, RULE, MIXED_COSTS), (8 * 12, (3, 1, 1)))
        self.assertEqual(loss_of(MIXED, (4, 2, 0), RULE, MIXED_COSTS), 8 * 12)
        none = ((0,) * 5, (0,) * 4, (0,) * 2)
        self.assertEqual(least_loss(MIXED, (2, 2, 2), none, out=0), (0, (1, 1, 1)))
        self.assertEqual(least_loss(MIXED, (2, 2, 2), none, out=1), (0, (3, 1, 1)))

    def test_none(self):
        self.assertIsNone(least_loss(MIXED, (9, 1, 0), MIXED_COSTS))
        self.assertIsNone(least_loss(NUMBERS, (1, 9, 9), AGES_COSTS))
        self.assertIsNotNone(least_loss(NUMBERS, (1, 9, 10), AGES_COSTS))

    def test_going_through_all_coarsenings(self):
        for table in TABLES + (FOUR,):
            for costs in all_costs(table):
                for rule in RULES[::4]:
                    for out in (0, 4, 50):
                        found = [
                            (plain_loss(table, levels, rule, costs, out), levels)
                            for levels in coarsenings_of(table) if is_safe(table, levels, rule)
                        ]
                        told = least_loss(table, rule, costs, out=out)
                        self.assertEqual(told, min(found, default=None))
                        if told is not None:
                            self.assertEqual([type(part) for part in (told, *told)], [tuple, int, tuple])

    def test_a_table_without_rows(self):
        self.assertEqual(least_loss(EMPTY, (9, 9, 0), ((7,) * 5, (7, 7))), (0, (0, 0)))

    def test_a_wide_table(self):
        costs = ((0, 1, 2, 3, 5, 8, 13, 21),) * 4
        loss, levels = least_loss(WIDE, (4, 3, 20), costs)
        self.assertEqual(loss_of(WIDE, levels, (4, 3, 20), costs), loss)
        self.assertIs(is_safe(WIDE, levels, (4, 3, 20)), True)
        paper = loss_paper(WIDE, (4, 3, 20), costs)
        self.assertIs(paper_holds(WIDE, (4, 3, 20), costs, (loss, levels), paper), True)
        singles = tuple((one, one) for one in coarsenings_of(WIDE))
        self.assertIs(paper_holds(WIDE, (4, 3, 20), costs, (loss, levels), singles), True)
        self.assertIs(paper_holds(WIDE, (4, 3, 20), costs, (loss, levels), singles[1:]), False)


class Papers(unittest.TestCase):
    def test_it_holds_for_what_is_told(self):
        for table in TABLES + (FOUR,):
            for costs in all_costs(table):
                for rule in RULES[::4]:
                    for out in (0, 50):
                        told = least_loss(table, rule, costs, out=out)
                        paper = loss_paper(table, rule, costs, out=out)
                        self.assertIs(paper_holds(table, rule, costs, told, paper, out=out), True)
                        self.assertIs(plain_holds(table, rule, costs, told, paper, out), True)

    def test_its_boxes_have_each_coarsening_in_just_one(self):
        for table in TABLES + (FOUR,):
            for rule in RULES[::4]:
                paper = loss_paper(table, rule, next(all_costs(table)))
                self.assertIs(type(paper), tuple)
                for box in paper:
                    self.assertEqual([type(part) for part in (box, *box)], [tuple] * 3)
                    self.assertIs(beneath(*box), True)
                taken = sorted(levels for box in paper for levels in inside(table, box))
                self.assertEqual(taken, coarsenings_of(table))

    def test_where_nothing_is_safe(self):
        for table, rule in ((MIXED, (9, 1, 0)), (NUMBERS, (1, 9, 9))):
            costs = next(all_costs(table))
            self.assertIsNone(least_loss(table, rule, costs))
            paper = loss_paper(table, rule, costs)
            self.assertIs(paper_holds(table, rule, costs, None, paper), True)
            for levels in coarsenings_of(table):
                loss = loss_of(table, levels, rule, costs)
                self.assertIs(paper_holds(table, rule, costs, (loss, levels), paper), False)


class Holding(unittest.TestCase):
    BOXES = loss_paper(MIXED, RULE, MIXED_COSTS)
    SINGLES = tuple((levels, levels) for levels in coarsenings_of(MIXED))
    TOLD = (96, (3, 1, 1))

    def holds(self, paper, holds, told=TOLD, table=MIXED, rule=RULE, costs=MIXED_COSTS):
        self.assertIs(paper_holds(table, rule, costs, told, paper), holds)

    def test_papers_that_hold(self):
        self.assertGreater(len(self.BOXES), 2)
        for paper in (self.BOXES, self.SINGLES, self.BOXES[::-1], self.SINGLES[::-1],
                      self.SINGLES[3:] + self.SINGLES[:3]):
            self.holds(paper, True)

    def test_a_box_left_out(self):
        for paper in (self.BOXES, self.SINGLES):
            for at in range(len(paper)):
                self.holds(paper[:at] + paper[at + 1:], False)
        self.holds((), False)
        self.holds((), False, None)
        self.holds((), False, None, MIXED, (9, 1, 0))

    def test_a_box_twice(self):
        for paper in (self.BOXES, self.SINGLES):
            for at in range(len(paper)):
                self.holds(paper[:at + 1] + paper[at:], False)
                self.holds(paper + paper[at:at + 1], False)
            self.holds(paper + paper, False)

    def test_two_boxes_that_share_a_coarsening(self):
        for single in self.SINGLES:
            self.holds(self.BOXES + (single,), False)
            self.holds((single,) + self.BOXES, False)
        bottom, top = (0, 0, 0), (4, 3, 1)
        self.holds(((bottom, top),), True, None, MIXED, (9, 1, 0))
        self.holds(((bottom, top), (top, top)), False, None, MIXED, (9, 1, 0))
        self.holds(((bottom, (4, 3, 0)), ((0, 0, 1), top)), True, None, MIXED, (9, 1, 0))
        self.holds(((bottom, (4, 3, 0)), ((0, 1, 0), top)), False, None, MIXED, (9, 1, 0))
        self.holds(((bottom, (4, 3, 0)), ((1, 0, 1), top)), False, None, MIXED, (9, 1, 0))

    def test_as_many_coarsenings_in_all_but_one_twice(self):
        self.holds(self.SINGLES[:-1] + self.SINGLES[:1], False)
        self.holds(self.SINGLES[:5] + self.SINGLES[6:7] + self.SINGLES[6:], False)

    def test_a_bound_below_the_told_loss(self):
        self.holds((((0, 0, 0), (4, 3, 1)),), False)
        self.holds((((0, 0, 0), (4, 3, 0)), ((0, 0, 1), (4, 3, 1))), False)
        self.assertEqual(bound_of(MIXED, RULE, MIXED_COSTS, ((0, 0, 0), (4, 3, 1))), 0)

    def test_a_bound_at_the_told_loss(self):
        flat = ((4,) * 5, (4,) * 4, (4,) * 2)
        whole = (((0, 0, 0), (4, 3, 1)),)
        self.assertIs(paper_holds(MIXED, RULE, flat, (96, (3, 1, 1)), whole), True)
        self.assertIs(paper_holds(MIXED, RULE, flat, (96, (4, 3, 1)), whole), True)
        self.assertIs(paper_holds(MIXED, RULE, flat, (96, (2, 3, 1)), whole), False)
        self.assertIs(paper_holds(MIXED, RULE, flat, (97, (3, 1, 1)), whole), False)
        self.assertIs(paper_holds(MIXED, RULE, flat, (95, (3, 1, 1)), whole), False)

    def test_another_told_loss(self):
        for paper in (self.BOXES, self.SINGLES):
            for loss in (95, 97, 0, -96, 96 * 8, 999999999):
                self.holds(paper, False, (loss, (3, 1, 1)))

    def test_another_told_coarsening(self):
        least = ((3, 1, 1), (3, 2, 1), (4, 2, 0))
        for levels in coarsenings_of(MIXED):
            loss = loss_of(MIXED, levels, RULE, MIXED_COSTS)
            for paper in (self.BOXES, self.SINGLES):
                self.holds(paper, levels in least, (96, levels))
                self.holds(paper, levels in least, (loss, levels))

    def test_an_unsafe_coarsening_of_the_told_loss(self):
        flat = ((4,) * 5, (4,) * 4, (4,) * 2)
        for levels in coarsenings_of(MIXED):
            told = paper_holds(MIXED, RULE, flat, (96, levels), self.SINGLES, out=12)
            self.assertIs(told, is_safe(MIXED, levels, RULE))

    def test_none_for_a_told_tuple_and_a_tuple_for_none(self):
        for paper in (self.BOXES, self.SINGLES):
            self.holds(paper, False, None)
            self.holds(paper, False, self.TOLD, MIXED, (9, 1, 0))
            self.holds(paper, False, (8 * 50, (4, 3, 1)), MIXED, (9, 1, 0))
            self.holds(paper, True, None, MIXED, (9, 1, 0))

    def test_all_papers_of_one_ladder(self):
        for rule, out in product([(2, 2, 2), (2, 2, 0), (3, 1, 4), (1, 4, 9), (2, 2, 10)], (0, 25, 50)):
            losses_of = [plain_loss(NUMBERS, (level,), rule, AGES_COSTS, out) for level in range(5)]
            tolds = [None] + [(loss + more, (level,)) for level, loss in enumerate(losses_of)
                              for more in (-1, 0, 1)]
            for cuts in product((False, True), repeat=4):
                ends = [at for at, cut in enumerate(cuts) if cut] + [4]
                starts = [0] + [end + 1 for end in ends[:-1]]
                paper = tuple(((start,), (end,)) for start, end in zip(starts, ends))
                for told in tolds:
                    self.assertIs(
                        paper_holds(NUMBERS, rule, AGES_COSTS, told, paper, out=out),
                        plain_holds(NUMBERS, rule, AGES_COSTS, told, paper, out),
                        (rule, out, told, paper),
                    )

    def test_it_holds_for_the_least_loss_alone(self):
        for table in (MIXED, NUMBERS, EMPTY):
            for costs in all_costs(table):
                for rule in RULES[::13]:
                    told = least_loss(table, rule, costs)
                    paper = loss_paper(table, rule, costs)
                    for levels in coarsenings_of(table):
                        loss = loss_of(table, levels, rule, costs)
                        right = told is not None and loss == told[0] and is_safe(table, levels, rule)
                        self.assertIs(paper_holds(table, rule, costs, (loss, levels), paper), right)

    def test_a_box_whose_first_is_not_beneath_its_second(self):
        turned = tuple((high, low) for low, high in self.BOXES)
        self.holds(turned, False)
        self.holds(self.SINGLES + (((1, 0, 0), (0, 0, 0)),), False)
        self.holds((((1, 0, 0), (0, 1, 0)),) + self.SINGLES, False)
        for at, (low, high) in enumerate(self.BOXES):
            if low != high:
                self.holds(self.BOXES[:at] + ((high, low),) + self.BOXES[at + 1:], False)

    def test_lists_in_the_place_of_tuples(self):
        for paper in (self.BOXES, self.SINGLES):
            self.holds(list(paper), False)
            low, high = paper[0]
            for box in ([low, high], (list(low), high), (low, list(high)), [list(low), list(high)]):
                self.holds((box,) + paper[1:], False)
                self.holds(paper[1:] + (box,), False)

    def test_levels_that_are_none(self):
        for at in range(3):
            for level in (-1, 9, 5, 10 ** 5000, True, False, None, 0.0, 1.0, "0", (), (0,), [0], [], Rude()):
                wrong = (0,) * at + (level,) + (0,) * (2 - at)
                for box in ((wrong, wrong), ((0, 0, 0), wrong), (wrong, (0, 0, 0)), (wrong, (4, 3, 1))):
                    self.holds((box,) + self.SINGLES[1:], False)
                    self.holds(self.SINGLES + (box,), False)
                    self.holds((box,), False)

    def test_truths_in_the_place_of_their_numbers(self):
        whole = (((0, 0, 0), (4, 3, 1)),)
        self.holds(whole, True, None, MIXED, (9, 1, 0))
        for wrong in (((0, 0, False), (4, 3, 1)), ((0, 0, 0), (4, 3, True)), ((False,) * 3, (4, 3, 1))):
            self.holds((wrong,), False, None, MIXED, (9, 1, 0))

    def test_coarsenings_too_long_and_too_short(self):
        for wrong in ((), (0,), (0, 0), (0, 0, 0, 0), (0,) * 1000):
            for box in ((wrong, wrong), ((0, 0, 0), wrong), (wrong, (0, 0, 0)), (wrong, (4, 3, 1))):
                self.holds((box,) + self.SINGLES[1:], False)
                self.holds(self.SINGLES + (box,), False)

    def test_boxes_too_long_and_too_short(self):
        low = (0, 0, 0)
        for box in ((), (low,), (low, low, low), low, (low, low, None)):
            self.holds((box,) + self.SINGLES[1:], False)
            self.holds(self.SINGLES + (box,), False)

    def test_of_anything(self):
        low = (0, 0, 0)
        for thing in anything():
            for paper in (
                thing, (thing,), (thing, thing), self.SINGLES + (thing,), (thing,) + self.SINGLES,
                ((low, thing),) + self.SINGLES[1:], ((thing, low),) + self.SINGLES[1:],
                ((thing, thing),) + self.SINGLES[1:], (((0, 0, thing), low),) + self.SINGLES[1:],
                ((low, (thing, 0, 0)),) + self.SINGLES[1:],
            ):
                self.holds(paper, False)
                self.holds(paper, False, None)
                self.holds(paper, False, None, MIXED, (9, 1, 0))

    def test_a_told_one_of_another_form(self):
        for told in ((), (96,), (96, (3, 1, 1), 0), [96, (3, 1, 1)], (96, [3, 1, 1]), (96, (3, 1)),
                     (96, (3, 1, True)), (96, (3, True, 1)), (96, (3, 1, 2)), (96.0, (3, 1, 1)), 96, (3, 1, 1),
                     (None, (3, 1, 1)), (96, None), ("96", (3, 1, 1)), (96, Rude()), False):
            self.holds(self.SINGLES, False, told)
        self.assertIs(
            paper_holds(NUMBERS, (1, 1, 0), AGES_COSTS, (False, (0,)), (((0,), (4,)),)), False)
        self.assertIs(
            paper_holds(NUMBERS, (1, 1, 0), AGES_COSTS, (0, (0,)), (((0,), (4,)),)), True)

    def test_out_left_out_and_told(self):
        rule = (2, 2, 2)
        for out in (0, 25, 26, 50):
            told = least_loss(NUMBERS, rule, AGES_COSTS, out=out)
            paper = loss_paper(NUMBERS, rule, AGES_COSTS, out=out)
            self.assertIs(paper_holds(NUMBERS, rule, AGES_COSTS, told, paper, out=out), True)
            self.assertIs(paper_holds(NUMBERS, rule, AGES_COSTS, told, paper), out in (26, 50))


class Asked(unittest.TestCase):
    def test_arguments_by_the_names_of_the_interface(self):
        asked = {"table": NUMBERS, "rule": (2, 2, 2), "costs": AGES_COSTS}
        self.assertEqual(loss_of(levels=(3,), **asked), 140)
        self.assertEqual(loss_of(levels=(3,), out=10, **asked), 60)
        self.assertEqual(bound_of(box=((3,), (3,)), **asked), 140)
        self.assertEqual(bound_of(box=((3,), (3,)), out=10, **asked), 60)
        self.assertEqual(least_loss(**asked), (90, (4,)))
        self.assertEqual(least_loss(out=10, **asked), (60, (3,)))
        self.assertIs(paper_holds(told=(90, (4,)), paper=loss_paper(**asked), **asked), True)
        paper = loss_paper(out=10, **asked)
        self.assertIs(paper_holds(told=(60, (3,)), paper=paper, out=10, **asked), True)
        self.assertIs(paper_holds(paper=None, told=None, **asked), False)

    def test_out_is_handed_in_by_name_alone(self):
        for ask in (
            lambda: loss_of(NUMBERS, (3,), RULE, AGES_COSTS, 50),
            lambda: bound_of(NUMBERS, RULE, AGES_COSTS, ((3,), (3,)), 50),
            lambda: least_loss(NUMBERS, RULE, AGES_COSTS, 50),
            lambda: loss_paper(NUMBERS, RULE, AGES_COSTS, 50),
            lambda: paper_holds(NUMBERS, RULE, AGES_COSTS, None, (), 50),
        ):
            with self.assertRaises(TypeError):
                ask()

    def test_what_is_handed_in_stays_as_it_is(self):
        table, costs = copy.deepcopy(MIXED), copy.deepcopy(MIXED_COSTS)
        paper = [[[0, 0, 0], [4, 3, 1]]]
        for _ in range(2):
            self.assertEqual(least_loss(table, RULE, costs), (96, (3, 1, 1)))
            self.assertIs(paper_holds(table, RULE, costs, None, paper), False)
            self.assertIs(paper_holds(table, RULE, costs, None, (paper,)), False)
        self.assertEqual((table, costs), (MIXED, MIXED_COSTS))
        self.assertEqual(paper, [[[0, 0, 0], [4, 3, 1]]])

    def test_a_ladder_alone(self):
        table = ((PLAIN,), (((1,), "a"), ((1,), "b"), ((2,), "a")))
        self.assertEqual(least_loss(table, (2, 2, 0), ((0, 9),)), (27, (1,)))
        self.assertEqual(least_loss(table, (2, 2, 1), ((0, 60),)), (50, (0,)))


if __name__ == "__main__":
    unittest.main()
