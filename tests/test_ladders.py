"""Promises [5], [6], [7], and what [2] says of ladders."""

import copy
import unittest

from mistgrid.errors import MistError, NoDesk, NoLevel, NoText, NoWorld, Tells, Unsafe
from mistgrid.ladders import coarse, is_ladder, is_value, levels_of
from tests.samples import AGES, PLACES, PLAIN, SHORT, Rude, anything

LETTERS = "abcdefghijklmnopqrstuvwxyz"


def chain(many):
    """A ladder of names with one value and so many rows, one above another."""
    names = LETTERS[:many]
    return ("tree", tuple((name, above) for name, above in zip(names, names[1:] + "*")))


def flat(many):
    """A ladder of names with so many values, straight below the top."""
    names = [one + other for one in LETTERS for other in LETTERS]
    return ("tree", tuple((name, "*") for name in names[:many]))


def powers(many):
    return ("num", tuple(3 ** i for i in range(1, many + 1)))


class LaddersOfNumbers(unittest.TestCase):
    def test_none_to_six_steps(self):
        for many in range(7):
            self.assertIs(is_ladder(powers(many)), True, many)
        self.assertIs(is_ladder(powers(7)), False)
        self.assertIs(is_ladder(powers(12)), False)

    def test_the_first_step_is_at_least_two(self):
        self.assertIs(is_ladder(("num", (2,))), True)
        for first in (1, 0, -1, -2, -10):
            self.assertIs(is_ladder(("num", (first,))), False, first)
            self.assertIs(is_ladder(("num", (first, 10))), False, first)

    def test_each_step_is_a_greater_multiple_of_the_one_ahead(self):
        for steps in ((2, 4), (2, 6, 12), (5, 10, 50), (7, 700000000)):
            self.assertIs(is_ladder(("num", steps)), True, steps)
        for steps in ((2, 3), (2, 2), (4, 2), (10, 5), (5, 10, 10), (5, 10, 25), (6, 9),
                      (2, 0), (2, -4), (2, 4, 0)):
            self.assertIs(is_ladder(("num", steps)), False, steps)

    def test_steps_have_at_most_nine_figures(self):
        self.assertIs(is_ladder(("num", (999999999,))), True)
        self.assertIs(is_ladder(("num", (1000000000,))), False)
        self.assertIs(is_ladder(("num", (500000000, 1000000000))), False)
        self.assertIs(is_ladder(("num", (2, 10 ** 5000))), False)

    def test_steps_are_ints_that_are_no_truths(self):
        for step in (True, False, 2.0, "2", None, (2,), [2], Rude()):
            self.assertIs(is_ladder(("num", (step,))), False)
            self.assertIs(is_ladder(("num", (2, step))), False)

    def test_lists_in_the_place_of_tuples(self):
        for thing in (["num", (2,)], ("num", [2]), ["num", [2]]):
            self.assertIs(is_ladder(thing), False, thing)


class LaddersOfNames(unittest.TestCase):
    def test_one_to_sixty_rows(self):
        for many in (1, 2, 59, 60):
            self.assertIs(is_ladder(flat(many)), True, many)
        for many in (0, 61, 100):
            self.assertIs(is_ladder(flat(many)), False, many)

    def test_names_are_unlike(self):
        for rows in ((("a", "*"), ("a", "*")), (("a", "b"), ("b", "*"), ("a", "*")),
                     (("a", "b"), ("a", "b"), ("b", "*"))):
            self.assertIs(is_ladder(("tree", rows)), False, rows)

    def test_names_are_of_one_to_twelve_small_letters(self):
        for name in ("a", "z", "abcdefghijkl", "zzzzzzzzzzzz"):
            self.assertIs(is_ladder(("tree", ((name, "*"),))), True, name)
            self.assertIs(is_ladder(("tree", (("b", name), (name, "*")))), True, name)
        for name in ("abcdefghijklm", "", "A", "aB", "a1", "1", "a b", " a", "a ", "a\n", "a-b",
                     "*", "\u00e9", "a\u00df", "`", "{"):
            self.assertIs(is_ladder(("tree", ((name, "*"),))), False, name)
            self.assertIs(is_ladder(("tree", (("b", name), (name, "*")))), False, name)

    def test_each_above_is_a_name_of_the_rows_or_the_top(self):
        for above in ("b", "", "**", "A", None, 1, True, b"*", ("*",), ["*"], Rude()):
            for more in ((), (("c", "*"),), (("c", "a"), ("d", "*"))):
                self.assertIs(is_ladder(("tree", (("a", above),) + more)), False)
                self.assertIs(is_ladder(("tree", more + (("a", above),))), False)

    def test_rows_are_tuples_of_two(self):
        for row in (("a",), ("a", "*", "*"), (), ["a", "*"], "a*", {"a": 1, "*": 2}, None, 1):
            self.assertIs(is_ladder(("tree", (row,))), False, row)
            self.assertIs(is_ladder(("tree", (("b", "*"), row))), False, row)
        self.assertIs(is_ladder(("tree", [("a", "*")])), False)
        self.assertIs(is_ladder(["tree", (("a", "*"),)]), False)

    def test_names_that_lead_round(self):
        for rows in (
            (("a", "a"),),
            (("a", "b"), ("b", "a")),
            (("a", "*"), ("b", "c"), ("c", "b")),
            (("a", "b"), ("b", "c"), ("c", "b")),
            (("a", "*"), ("b", "b")),
            (("a", "b"), ("b", "*"), ("c", "d"), ("d", "c")),
        ):
            self.assertIs(is_ladder(("tree", rows)), False, rows)

    def test_all_values_are_equally_far_below_the_top(self):
        for rows in (
            (("a", "*"), ("b", "c"), ("c", "*")),
            (("b", "c"), ("c", "*"), ("a", "*")),
            (("a", "b"), ("b", "c"), ("c", "*"), ("d", "c")),
        ):
            self.assertIs(is_ladder(("tree", rows)), False, rows)
        for rows in (
            (("c", "*"), ("a", "c"), ("b", "c")),
            (("a", "c"), ("b", "d"), ("c", "*"), ("d", "*")),
        ):
            self.assertIs(is_ladder(("tree", rows)), True, rows)

    def test_at_most_six_steps(self):
        for many in range(1, 7):
            self.assertIs(is_ladder(chain(many)), True, many)
        for many in (7, 8, 26):
            self.assertIs(is_ladder(chain(many)), False, many)

    def test_sixty_rows_that_stand_above_one_another(self):
        rows = chain(6)[1] + tuple((one + other, "b") for one in "abc" for other in LETTERS[:18])
        self.assertEqual(len(rows), 60)
        self.assertIs(is_ladder(("tree", rows)), True)
        self.assertIs(is_ladder(("tree", rows + (("zz", "b"),))), False)


class Anything(unittest.TestCase):
    def test_is_ladder_is_told_of_anything(self):
        for thing in anything():
            self.assertIs(is_ladder(thing), False)

    def test_other_kinds_of_ladders(self):
        for kind in ("", "Num", "nums", "trees", "*", b"num", None, 0, True, ("num",), ["num"]):
            self.assertIs(is_ladder((kind, ())), False, kind)
            self.assertIs(is_ladder((kind, (("a", "*"),))), False, kind)
        self.assertIs(is_ladder(("tree", (2, 4))), False)
        self.assertIs(is_ladder(("num", (("a", "*"),))), False)

    def test_tuples_of_other_lengths(self):
        for thing in ((), ("num",), ("num", (), ()), ("num", (2,), 2), ("tree", (("a", "*"),), ())):
            self.assertIs(is_ladder(thing), False, thing)

    def test_is_value_is_told_of_anything(self):
        for ladder in (PLAIN, AGES, PLACES, SHORT):
            for thing in anything():
                self.assertIs(is_value(ladder, thing), False)

    def test_what_is_asked_of_stays_as_it_is(self):
        for thing in (["num", [2, 4]], {"num": [2]}, ("tree", [["a", "*"]]), [[1, [2]], {}]):
            before = copy.deepcopy(thing)
            is_ladder(thing)
            is_value(AGES, thing)
            is_value(PLACES, thing)
            self.assertEqual(thing, before)


class Values(unittest.TestCase):
    def test_numbers_of_at_most_nine_figures(self):
        for number in (0, 1, -1, 7, 999999999, -999999999):
            self.assertIs(is_value(AGES, number), True, number)
            self.assertIs(is_value(PLAIN, number), True, number)
        for number in (1000000000, -1000000000, 10 ** 5000, -(10 ** 5000)):
            self.assertIs(is_value(AGES, number), False)
            self.assertIs(is_value(PLAIN, number), False)

    def test_truths_are_no_numbers(self):
        for truth in (True, False):
            self.assertIs(is_value(AGES, truth), False)

    def test_other_things_are_no_numbers(self):
        for thing in (1.0, "1", "cold", "*", None, (1,), [1], {1: 1}, b"1"):
            self.assertIs(is_value(AGES, thing), False, thing)

    def test_names_that_are_above_none(self):
        for name in ("york", "hull", "dover"):
            self.assertIs(is_value(PLACES, name), True, name)
        for name in ("north", "south", "land", "*", "leeds", "yor", "York", "", "york "):
            self.assertIs(is_value(PLACES, name), False, name)

    def test_other_things_are_no_names(self):
        for thing in (0, True, None, ["york"], {"york": 1}, ("york",), b"york", ("york", "north")):
            self.assertIs(is_value(PLACES, thing), False, thing)


class Levels(unittest.TestCase):
    def test_numbers_have_two_levels_more_than_steps(self):
        for many in range(7):
            self.assertEqual(levels_of(powers(many)), many + 2)

    def test_names_have_one_level_more_than_steps_to_the_top(self):
        for many in range(1, 7):
            self.assertEqual(levels_of(chain(many)), many + 1)
        self.assertEqual(levels_of(PLACES), 4)
        self.assertEqual(levels_of(SHORT), 2)

    def test_the_rows_may_stand_in_any_order(self):
        ladder = ("tree", tuple(reversed(PLACES[1])))
        self.assertIs(is_ladder(ladder), True)
        self.assertEqual(levels_of(ladder), 4)
        self.assertEqual([coarse(ladder, "hull", i) for i in range(4)], ["hull", "north", "land", "*"])


class Coarse(unittest.TestCase):
    def test_numbers_at_each_level(self):
        for value, told in (
            (0, [0, 0, 0, 0, "*"]),
            (3, [3, 0, 0, 0, "*"]),
            (50, [50, 50, 50, 50, "*"]),
            (59, [59, 55, 50, 50, "*"]),
            (49, [49, 45, 40, 0, "*"]),
            (-1, [-1, -5, -10, -50, "*"]),
            (-5, [-5, -5, -10, -50, "*"]),
            (-10, [-10, -10, -10, -50, "*"]),
            (-50, [-50, -50, -50, -50, "*"]),
            (-51, [-51, -55, -60, -100, "*"]),
        ):
            self.assertEqual([coarse(AGES, value, level) for level in range(5)], told)

    def test_numbers_at_the_edges(self):
        ladder = ("num", (999999998,))
        self.assertEqual(coarse(ladder, 999999999, 1), 999999998)
        self.assertEqual(coarse(ladder, -999999999, 1), -1999999996)
        self.assertEqual(coarse(ladder, -999999999, 0), -999999999)

    def test_a_ladder_without_steps(self):
        self.assertEqual(coarse(PLAIN, -7, 0), -7)
        self.assertEqual(coarse(PLAIN, -7, 1), "*")

    def test_it_is_the_greatest_multiple_not_above_the_value(self):
        for value in range(-120, 121):
            for level, step in enumerate(AGES[1], 1):
                told = coarse(AGES, value, level)
                self.assertEqual(told % step, 0)
                self.assertTrue(told <= value < told + step)

    def test_names_at_each_level(self):
        for value, told in (
            ("york", ["york", "north", "land", "*"]),
            ("hull", ["hull", "north", "land", "*"]),
            ("dover", ["dover", "south", "land", "*"]),
        ):
            self.assertEqual([coarse(PLACES, value, level) for level in range(4)], told)
        self.assertEqual([coarse(chain(6), "a", i) for i in range(7)], list("abcdef*"))
        self.assertEqual([coarse(SHORT, "no", i) for i in range(2)], ["no", "*"])

    def test_no_such_level(self):
        for ladder, value in ((PLAIN, 1), (AGES, -7), (PLACES, "hull"), (SHORT, "no")):
            many = levels_of(ladder)
            for level in (-1, -2, -many, many, many + 1, 999999999, -999999999, 10 ** 5000):
                with self.assertRaises(NoLevel) as caught:
                    coarse(ladder, value, level)
                self.assertIsInstance(caught.exception, MistError)
                self.assertIsInstance(caught.exception, ValueError)
                self.assertNotIsInstance(caught.exception, (NoWorld, NoDesk, NoText, Unsafe, Tells))

    def test_what_is_no_whole_number_is_no_level(self):
        for level in (True, False, None, 1.0, "1", (1,)):
            with self.assertRaises(NoLevel):
                coarse(AGES, 7, level)

    def test_asked_again_the_same_is_told(self):
        for _ in range(2):
            self.assertEqual(coarse(AGES, 59, 2), 50)
            with self.assertRaises(NoLevel):
                coarse(AGES, 59, 5)


class ByNames(unittest.TestCase):
    def test_arguments_by_the_names_of_the_interface(self):
        self.assertIs(is_ladder(thing=AGES), True)
        self.assertIs(is_value(ladder=AGES, thing=3), True)
        self.assertIs(is_value(thing=3, ladder=SHORT), False)
        self.assertEqual(levels_of(ladder=AGES), 5)
        self.assertEqual(coarse(ladder=AGES, value=59, level=1), 55)
        self.assertEqual(coarse(AGES, level=2, value=59), 50)


if __name__ == "__main__":
    unittest.main()
