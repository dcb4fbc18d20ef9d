"""Promises [11], [18], what [17] says a release for ladders is, and what [2], [3] say of texts."""

import copy
import unittest

from mistgrid.errors import MistError, NoDesk, NoLevel, NoText, NoWorld, Tells, Unsafe
from mistgrid.ladders import coarse, levels_of
from mistgrid.tables import groups_of, is_table
from mistgrid.texts import read_release, read_table, show_release, show_table
from tests.samples import (
    AGES, EIGHT, EMPTY, FOUR, MIXED, NUMBERS, PLACES, PLAIN, SHORT, TABLES, WIDE, coarsenings_of,
)

LETTERS = "abcdefghijklmnopqrstuvwxyz"
NAMES = [one + other for one in LETTERS for other in LETTERS]
BIG = 999999999

ALL_SHOWN = """\
num 5 10 50
tree york>north hull>north dover>south north>land south>land land>*
tree yes>* no>*
row 12 york no flu
row -3 hull no cold
row -5 york no cold
row 0 dover yes gout
row 14 hull no flu
row 49 dover no flu
row -3 york yes flu
row 12 york no cold
"""


def flat(many):
    return ("tree", tuple((name, "*") for name in NAMES[:many]))


def lines(*rows):
    return "".join(row + "\n" for row in rows)


class Refusing(unittest.TestCase):
    def refused(self, row, ask, *arguments):
        before = copy.deepcopy(arguments)
        for _ in range(2):
            with self.assertRaises(NoText, msg=arguments) as caught:
                ask(*arguments)
            self.assertIs(type(caught.exception.row), int)
            self.assertEqual(caught.exception.row, row, arguments)
            self.assertIsInstance(caught.exception, MistError)
            self.assertIsInstance(caught.exception, ValueError)
            self.assertNotIsInstance(caught.exception, (NoLevel, NoWorld, NoDesk, Unsafe, Tells))
        self.assertEqual(arguments, before)


class Shown(unittest.TestCase):
    def test_all_kinds_of_ladders_and_values(self):
        self.assertEqual(show_table(MIXED), ALL_SHOWN)

    def test_ladders_of_numbers(self):
        self.assertEqual(show_table(((PLAIN,), ())), "num\n")
        self.assertEqual(show_table(((EIGHT, PLAIN), ())), "num 2 4 8 16 32 64\nnum\n")
        self.assertEqual(show_table(((("num", (BIG,)),), ())), "num 999999999\n")

    def test_ladders_of_names(self):
        self.assertEqual(show_table(((("tree", (("a", "*"),)),), ())), "tree a>*\n")
        told = show_table(((flat(60),), ()))
        self.assertEqual(told, "tree " + " ".join(name + ">*" for name in NAMES[:60]) + "\n")

    def test_numbers(self):
        rows = tuple(((number,), "a") for number in (0, 7, -7, BIG, -BIG, 10, -100))
        self.assertEqual(
            show_table(((PLAIN,), rows)),
            "num\nrow 0 a\nrow 7 a\nrow -7 a\nrow 999999999 a\nrow -999999999 a\nrow 10 a\nrow -100 a\n",
        )


class ReadBack(unittest.TestCase):
    def back(self, table):
        self.assertIs(is_table(table), True)
        text = show_table(table)
        told = read_table(text)
        self.assertEqual(told, table)
        self.assertIs(is_table(told), True)
        self.assertEqual(show_table(told), text)

    def test_samples(self):
        for table in TABLES + (FOUR, WIDE):
            self.back(table)
        self.assertEqual(read_table(ALL_SHOWN), MIXED)

    def test_none_to_six_steps(self):
        for many in range(7):
            self.back(((("num", tuple(3 ** i for i in range(1, many + 1))),), ()))

    def test_one_to_sixty_names(self):
        for many in (1, 2, 59, 60):
            self.back(((flat(many),), ((("aa",), "flu"),)))

    def test_one_to_six_steps_of_names(self):
        for many in range(1, 7):
            names = LETTERS[:many]
            ladder = ("tree", tuple(zip(names, names[1:] + "*")))
            self.back(((ladder,), ((("a",), "flu"),)))

    def test_none_to_sixty_rows(self):
        for many in (0, 1, 59, 60):
            self.back(((PLAIN, SHORT), tuple(((at - 30, "yes"), "flu") for at in range(many))))

    def test_one_to_four_ladders(self):
        for many in range(1, 5):
            self.back(((AGES,) * many, (((-1,) * many, "flu"),)))

    def test_numbers(self):
        for number in (0, 1, -1, 9, 10, -10, 100000000, BIG, -BIG):
            self.back(((PLAIN,), (((number,), "a"),)))

    def test_names(self):
        for name in ("a", "abcdefghijkl", "row", "num", "tree", "levels"):
            self.back(((("tree", ((name, "*"),)),), (((name,), name),)))


class NoTables(Refusing):
    AHEAD = lines("num 5 10", "tree york>north hull>north north>*")
    RIGHT = "row 12 york cold"

    def no_ladder(self, row):
        """Of a row that cannot stand where a ladder's may."""
        for ahead in ((), ("num",), ("tree a>*", "num 5")):
            at = len(ahead) + 1
            self.refused(at, read_table, lines(*ahead, row))
            self.refused(at, read_table, lines(*ahead) + row)
            self.refused(at, read_table, lines(*ahead, row, "num"))
            self.refused(at, read_table, lines(*ahead, row, row))

    def no_row(self, row):
        """Of a row that cannot stand where rows of AHEAD may."""
        if row != "":
            self.refused(3, read_table, self.AHEAD + row)
        self.refused(3, read_table, self.AHEAD + lines(row))
        self.refused(3, read_table, self.AHEAD + lines(row, self.RIGHT))
        self.refused(4, read_table, self.AHEAD + lines(self.RIGHT, row, row))
        self.refused(4, read_table, self.AHEAD + lines(self.RIGHT, row, "num 1"))
        self.refused(5, read_table, self.AHEAD + lines(self.RIGHT, self.RIGHT, row, ""))

    def test_the_rows_that_these_stand_between_are_right(self):
        self.assertEqual(
            read_table(self.AHEAD + lines(self.RIGHT, "row -3 hull flu")),
            (
                (("num", (5, 10)), ("tree", (("york", "north"), ("hull", "north"), ("north", "*")))),
                (((12, "york"), "cold"), ((-3, "hull"), "flu")),
            ),
        )

    def test_no_rows(self):
        self.refused(1, read_table, "")

    def test_each_beginning_of_a_text(self):
        text = "num 5\nrow 7 cold\n"
        right = {"num 5\n": ((("num", (5,)),), ()), text: ((("num", (5,)),), (((7,), "cold"),))}
        ended_not = {"num": 2, "num 5": 2, "num 5\nrow 7 c": 3, "num 5\nrow 7 co": 3,
                     "num 5\nrow 7 col": 3, "num 5\nrow 7 cold": 3}
        for many in range(len(text) + 1):
            begun = text[:many]
            if begun in right:
                self.assertEqual(read_table(begun), right[begun])
            else:
                own = begun.count("\n") + 1
                self.refused(ended_not.get(begun, own), read_table, begun)

    def test_the_last_line_feed_lacks(self):
        self.refused(12, read_table, ALL_SHOWN[:-1])
        self.refused(2, read_table, "num")
        self.refused(3, read_table, "num\nnum 5")
        self.refused(4, read_table, self.AHEAD + self.RIGHT)

    def test_a_cut_last_row_counts_by_its_own_number(self):
        for cut in ("r", "ro", "row", "row ", "row 1", "row 12", "row 12 ", "row 12 yor",
                    "row 12 york", "row 12 york ", "row -"):
            self.refused(3, read_table, self.AHEAD + cut)
            self.refused(4, read_table, self.AHEAD + lines(self.RIGHT) + cut)
        for cut in ("n", "nu", "num ", "num 5 ", "num 5 1", "t", "tree", "tree ", "tree a", "tree a>",
                    "tree a>b", "tree a>b b", "tree a>b b>* "):
            self.refused(1, read_table, cut)
            self.refused(3, read_table, self.AHEAD + cut)

    def test_blanks(self):
        for row in ("row  12 york cold", "row 12  york cold", "row 12 york  cold", " row 12 york cold",
                    "row 12 york cold ", "row 12 york cold  ", "  row 12 york cold"):
            self.no_row(row)
        for row in (" num", "num ", "num  5", "num 5  10", "num 5 ", " num 5", "tree  a>*", "tree a>* ",
                    " tree a>*", "tree a>b  b>*", "tree a >*", "tree a> *", " ", "  "):
            self.no_ladder(row)

    def test_tabs(self):
        for row in ("row\t12 york cold", "row 12\tyork cold", "row 12 york\tcold", "\trow 12 york cold",
                    "row 12 york cold\t", "\t"):
            self.no_row(row)
        for row in ("num\t", "num\t5", "\tnum 5", "num 5\t", "num 5\t10", "tree\ta>*", "tree a>*\t",
                    "tree a>b\tb>*", "tree a\t>*"):
            self.no_ladder(row)

    def test_empty_rows(self):
        self.no_row("")
        self.refused(1, read_table, "\n")
        self.refused(1, read_table, "\n\n")
        self.refused(1, read_table, "\nnum\n")
        self.refused(2, read_table, "num\n\n")
        self.refused(2, read_table, "num\n\nnum\n")
        self.refused(12, read_table, ALL_SHOWN + "\n")

    def test_how_numbers_are_written(self):
        for word in ("007", "00", "01", "-0", "-00", "-01", "-007", "+1", "+0", "1000000000", "-1000000000",
                     "9999999999", "12345678901", "-12345678901", "9" * 5000, "-" + "9" * 5000,
                     "0" * 5000, "-", "--1", "1-", "1_0", "1.0", "1e3", "0x1", "1,000", "*", "york", "", "a1"):
            self.no_row(f"row {word} york cold")
            self.no_ladder(f"num {word}")

    def test_steps(self):
        for row in ("num 1", "num 0", "num -5", "num 1 5", "num 5 12", "num 5 5", "num 10 5", "num 5 0",
                    "num 5 -10", "num 2 4 8 16 32 64 128", "num 02", "num 5 010", "num a", "num 5>10",
                    "num 5 *", "num *"):
            self.no_ladder(row)

    def test_names_of_ladders(self):
        for row in ("tree abcdefghijklm>*", "tree A>*", "tree aB>*", "tree a1>*", "tree 1>*", "tree *>*",
                    "tree a>B B>*", "tree a>1", "tree a-b>*", "tree a_b>*", "tree",
                    "tree a>abcdefghijklm abcdefghijklm>*"):
            self.no_ladder(row)

    def test_name_and_above(self):
        for row in ("tree a", "tree a>", "tree >*", "tree >", "tree *", "tree a>>*", "tree a>*>",
                    "tree >a>*", "tree a>b>*", "tree a>b b>*>*", "tree a>* b", "tree b a>*", "tree a<*",
                    "tree a*", "tree a>**"):
            self.no_ladder(row)

    def test_names_that_make_no_ladder(self):
        for row in ("tree a>* a>*", "tree a>b b>* a>*", "tree a>b a>b b>*", "tree a>b", "tree a>b c>*",
                    "tree a>a", "tree a>b b>a", "tree a>* b>c c>b", "tree a>* b>c c>*",
                    "tree a>b b>c c>* d>c", "tree a>b b>c c>d d>e e>f f>g g>*"):
            self.no_ladder(row)
        self.no_ladder("tree " + " ".join(name + ">*" for name in NAMES[:61]))

    def test_other_words_ahead(self):
        for row in ("Num", "NUM 5", "nums 5", "numb", "Tree a>*", "trees a>*", "5", "a>*", "levels 0",
                    ">", "*", "num5", "treea>*", "rows 12 york cold", "rov 12 york cold",
                    "Row 12 york cold", "12 york cold"):
            self.no_ladder(row)
            self.no_row(row)

    def test_a_fifth_ladder(self):
        four = lines("num", "tree a>*", "num 5", "num")
        self.assertEqual(len(read_table(four)[0]), 4)
        for row in ("num", "num 5", "tree a>*"):
            self.refused(5, read_table, four + lines(row))
            self.refused(5, read_table, four + row)
            self.refused(5, read_table, four + lines(row, "row 1 a 1 1 1 cold"))
        self.refused(5, read_table, four + "nu")

    def test_a_row_ahead_of_all_ladders(self):
        for row in ("row", "row cold", "row 12 cold", "row 12 york cold", "row "):
            self.refused(1, read_table, lines(row))
            self.refused(1, read_table, row)
            self.refused(1, read_table, lines(row, "num"))

    def test_a_ladder_behind_a_row(self):
        for row in ("num", "num 5", "tree a>*"):
            self.refused(4, read_table, self.AHEAD + lines(self.RIGHT, row))
            self.refused(4, read_table, self.AHEAD + lines(self.RIGHT) + row)
            self.refused(5, read_table, self.AHEAD + lines(self.RIGHT, self.RIGHT, row, self.RIGHT))

    def test_a_sixty_first_row(self):
        sixty = self.AHEAD + lines(self.RIGHT) * 60
        self.assertEqual(len(read_table(sixty)[1]), 60)
        self.refused(63, read_table, sixty + lines(self.RIGHT))
        self.refused(63, read_table, sixty + self.RIGHT)
        self.refused(63, read_table, sixty + "ro")
        self.refused(63, read_table, sixty + "\n")
        self.refused(63, read_table, sixty + lines(self.RIGHT) * 60)
        self.refused(63, read_table, sixty[:-1])

    def test_publics(self):
        for row in ("row cold", "row 12 cold", "row york cold", "row 12 york 3 cold", "row 12 york york cold",
                    "row 12 12 york cold", "row york 12 cold", "row 12 12 cold", "row york york cold",
                    "row 12 north cold", "row 12 * cold", "row * york cold", "row 12 leeds cold",
                    "row 12 York cold", "row 12 yor cold", "row 12,york cold", "row 12 york>north cold"):
            self.no_row(row)

    def test_secrets(self):
        for row in ("row 12 york", "row 12 york ", "row 12 york Cold", "row 12 york co1d", "row 12 york 5",
                    "row 12 york *", "row 12 york abcdefghijklm", "row 12 york cold flu",
                    "row 12 york cold:", "row 12 york : cold", "row 12 york co-ld"):
            self.no_row(row)
        self.assertEqual(read_table(self.AHEAD + "row 12 york abcdefghijkl\n")[1][0][1], "abcdefghijkl")

    def test_of_two_wrong_rows_the_first_one_is_told(self):
        self.refused(1, read_table, "num 1\nnum 1\n")
        self.refused(2, read_table, "num\nnum 1\nnum 1\nrow cold\n")
        self.refused(3, read_table, self.AHEAD + "row 012 york cold\nrow 12 york\n")
        self.refused(3, read_table, self.AHEAD + "row 012 york cold\nrow 12 yo")
        self.refused(2, read_table, "num\nnum 1\n" + lines("row 1 cold") * 70)

    def test_each_sign_of_a_text_is_looked_at(self):
        for at in range(len(ALL_SHOWN)):
            for sign in " \t\n>*Z-":
                text = ALL_SHOWN[:at] + sign + ALL_SHOWN[at + 1:]
                try:
                    told = read_table(text)
                except NoText:
                    continue
                self.assertIs(is_table(told), True)
                self.assertEqual(show_table(told), text)


LADDERS = (AGES, PLACES)


class Releases(unittest.TestCase):
    def back(self, ladders, release, text):
        self.assertEqual(show_release(release), text)
        told = read_release(ladders, text)
        self.assertEqual(told, release)
        self.assertEqual(show_release(told), text)
        self.assertEqual([type(part) for part in told], [tuple, tuple])
        for group in told[1]:
            self.assertEqual([type(part) for part in (group, *group)], [tuple, tuple, tuple])

    def test_no_groups(self):
        self.back(LADDERS, ((0, 0), ()), "levels 0 0\n")
        self.back(LADDERS, ((4, 3), ()), "levels 4 3\n")
        self.back((PLAIN,), ((1,), ()), "levels 1\n")
        self.back((SHORT,) * 4, ((1, 0, 0, 1), ()), "levels 1 0 0 1\n")

    def test_one_group(self):
        self.back(LADDERS, ((0, 1), (((3, "north"), ("cold", "flu")),)), "levels 0 1\n3 north : cold flu\n")
        self.back(LADDERS, ((4, 3), ((("*", "*"), ("flu",)),)), "levels 4 3\n* * : flu\n")
        self.back((SHORT,), ((0,), ((("no",), ("abcdefghijkl",)),)), "levels 0\nno : abcdefghijkl\n")

    def test_secrets_twice(self):
        self.back((AGES,), ((4,), ((("*",), ("a", "a", "b", "b", "b")),)), "levels 4\n* : a a b b b\n")

    def test_many_groups(self):
        self.back(
            LADDERS,
            ((2, 2), (
                ((-20, "land"), ("cold",)), ((-10, "land"), ("cold", "cold")),
                ((0, "land"), ("flu",)), ((10, "land"), ("cold", "flu", "gout")), ((100, "land"), ("a", "b")),
            )),
            "levels 2 2\n-20 land : cold\n-10 land : cold cold\n0 land : flu\n"
            "10 land : cold flu gout\n100 land : a b\n",
        )
        self.back(
            (PLACES, AGES, SHORT),
            ((0, 4, 0), (
                (("dover", "*", "no"), ("a",)), (("hull", "*", "no"), ("a",)),
                (("hull", "*", "yes"), ("a",)), (("york", "*", "no"), ("b",)),
            )),
            "levels 0 4 0\ndover * no : a\nhull * no : a\nhull * yes : a\nyork * no : b\n",
        )
        groups = tuple(((number,), ("flu",) * 3) for number in range(-100, 100))
        self.back(
            (PLAIN,), ((0,), groups),
            "levels 0\n" + "".join(f"{number} : flu flu flu\n" for number in range(-100, 100)),
        )

    def test_keys_of_numbers(self):
        steps = ("num", (999999998,))
        for ladder, level, part in (
            (PLAIN, 0, BIG), (PLAIN, 0, -BIG), (PLAIN, 0, 0), (AGES, 1, -1000000000), (AGES, 1, 999999995),
            (AGES, 3, -1000000000), (AGES, 3, 999999950), (steps, 1, 999999998),
            (steps, 1, -1999999996), (steps, 1, -999999998), (steps, 1, 0), (AGES, 2, -10), (AGES, 3, 0),
        ):
            self.back((ladder,), ((level,), (((part,), ("a",)),)), f"levels {level}\n{part} : a\n")

    def test_words_of_the_texts_themselves_as_names(self):
        words = ("tree", (("levels", "*"), ("row", "*")))
        self.back(
            (words,), ((0,), ((("levels",), ("levels", "row")), (("row",), ("num",)))),
            "levels 0\nlevels : levels row\nrow : num\n",
        )

    def test_what_the_groups_of_tables_are_at_all_coarsenings(self):
        for ladders, rows in TABLES + (FOUR,):
            for levels in coarsenings_of((ladders, rows)):
                groups = tuple(
                    (key, tuple(sorted(rows[number][1] for number in numbers)))
                    for key, numbers in groups_of((ladders, rows), levels)
                )
                text = show_release((levels, groups))
                self.assertEqual(read_release(ladders, text), (levels, groups))

    def test_what_each_value_is_at_each_level_may_stand_in_a_key(self):
        for ladder, values in (
            (AGES, (-BIG, -51, -50, -1, 0, 1, 49, 50, BIG)), (("num", (7, 700000000)), (-BIG, 0, BIG)),
            (PLACES, ("york", "hull", "dover")), (SHORT, ("yes", "no")), (PLAIN, (-BIG, BIG)),
        ):
            for value in values:
                for level in range(levels_of(ladder)):
                    part = coarse(ladder, value, level)
                    told = read_release((ladder,), f"levels {level}\n{part} : a\n")
                    self.assertEqual(told, ((level,), (((part,), ("a",)),)))


class NoReleases(Refusing):
    LEVELS = "levels 1 1"
    RIGHT = "5 north : cold flu"
    MORE = "10 north : flu"

    def no_release(self, row, text, ladders=LADDERS):
        self.refused(row, read_release, ladders, text)

    def no_levels(self, row, ladders=LADDERS):
        self.no_release(1, row, ladders)
        self.no_release(1, lines(row), ladders)
        self.no_release(1, lines(row, self.RIGHT), ladders)
        self.no_release(1, lines(row, self.LEVELS), ladders)

    def no_group(self, row):
        """Of a row that cannot stand behind the levels, nor behind a first group."""
        if row != "":
            self.no_release(2, lines(self.LEVELS) + row)
            self.no_release(3, lines(self.LEVELS, "-5 north : a") + row)
        self.no_release(2, lines(self.LEVELS, row))
        self.no_release(2, lines(self.LEVELS, row, self.RIGHT))
        self.no_release(3, lines(self.LEVELS, "-5 north : a", row))
        self.no_release(3, lines(self.LEVELS, "-5 north : a", row, row, ""))

    def test_the_rows_that_these_stand_between_are_right(self):
        self.assertEqual(
            read_release(LADDERS, lines(self.LEVELS, "-5 north : a", self.RIGHT, self.MORE)),
            ((1, 1), (((-5, "north"), ("a",)), ((5, "north"), ("cold", "flu")), ((10, "north"), ("flu",)))),
        )

    def test_no_rows(self):
        self.no_release(1, "")

    def test_each_beginning_of_a_text(self):
        text = "levels 1 1\n5 north : cold\n"
        right = {"levels 1 1\n": ((1, 1), ()), text: ((1, 1), (((5, "north"), ("cold",)),))}
        ended_not = {"levels 1 1": 2}
        for begun in ("c", "co", "col", "cold"):
            ended_not["levels 1 1\n5 north : " + begun] = 3
        for many in range(len(text) + 1):
            begun = text[:many]
            if begun in right:
                self.assertEqual(read_release(LADDERS, begun), right[begun])
            else:
                own = begun.count("\n") + 1
                self.no_release(ended_not.get(begun, own), begun)

    def test_the_last_line_feed_lacks(self):
        self.no_release(2, self.LEVELS)
        self.no_release(3, lines(self.LEVELS) + self.RIGHT)
        self.no_release(4, lines(self.LEVELS, self.RIGHT) + self.MORE)

    def test_a_cut_last_row(self):
        for cut in ("l", "level", "levels", "levels ", "levels 1", "levels 1 "):
            self.no_release(1, cut)
        for cut in ("1", "10", "10 ", "10 nor", "10 north", "10 north ", "10 north :", "10 north : ",
                    "10 north : flu "):
            self.no_release(3, lines(self.LEVELS, self.RIGHT) + cut)

    def test_no_row_levels(self):
        for row in ("", " ", "\t", "level 1 1", "Levels 1 1", "1 1", self.RIGHT, "num 5", "row 12 york cold",
                    "levels1 1", "levels\t1 1", ":", "levels"):
            self.no_levels(row)
        self.no_release(1, "\n")
        self.no_release(1, "\n" + lines(self.LEVELS))

    def test_the_row_levels_twice(self):
        self.no_group(self.LEVELS)

    def test_levels(self):
        for row in ("levels 1", "levels 1 1 1", "levels 1 1 ", "levels  1 1", "levels 1  1", " levels 1 1",
                    "levels 5 1", "levels 1 4", "levels -1 1", "levels 1 -1", "levels 1 99", "levels 01 1",
                    "levels 1 007", "levels 1 00", "levels 1 -0", "levels 1 +1", "levels * 1", "levels 1 *",
                    "levels 1 north", "levels 1000000000 1", "levels 1 :", "levels 1 1 :", "levels a b",
                    "levels 1 " + "1" * 5000, "levels 1 1\t", "levels True 1"):
            self.no_levels(row)
        self.no_levels("levels 2", (PLAIN,))
        self.no_levels("levels 1 1", (PLAIN,))
        self.no_levels("levels 1 1 1 1 1", (PLAIN,) * 4)
        self.no_levels("levels 8 0 0 0", (EIGHT,) * 4)

    def test_the_edges_of_levels(self):
        for ladder in (PLAIN, AGES, EIGHT, PLACES, SHORT):
            many = levels_of(ladder)
            for level in range(many):
                self.assertEqual(read_release((ladder,), f"levels {level}\n"), ((level,), ()))
            for level in (-1, many, many + 1):
                self.no_levels(f"levels {level}", (ladder,))

    def test_keys_that_do_not_rise(self):
        self.no_release(3, lines(self.LEVELS, self.RIGHT, self.RIGHT))
        self.no_release(3, lines(self.LEVELS, self.RIGHT, "5 north : gout"))
        self.no_release(3, lines(self.LEVELS, self.RIGHT, "0 north : a"))
        self.no_release(3, lines(self.LEVELS, self.RIGHT, "-10 south : a"))
        self.no_release(3, lines(self.LEVELS, "5 south : a", self.RIGHT))
        self.no_release(3, lines(self.LEVELS, self.MORE, self.RIGHT))
        self.no_release(4, lines(self.LEVELS, self.RIGHT, self.MORE, self.RIGHT))
        self.no_release(4, lines(self.LEVELS, self.RIGHT, self.MORE, self.MORE))
        self.no_release(4, lines(self.LEVELS, self.RIGHT, self.MORE) + self.MORE)
        self.no_release(3, "levels 4\n* : a\n* : a\n", (AGES,))
        self.no_release(3, "levels 0\nyes : a\nno : a\n", (SHORT,))

    def test_keys_rise_as_numbers_do_not_as_words(self):
        self.assertEqual(
            [key for key, _ in read_release((PLAIN,), "levels 0\n-20 : a\n-3 : a\n9 : a\n100 : a\n")[1]],
            [(-20,), (-3,), (9,), (100,)],
        )
        self.no_release(3, "levels 0\n100 : a\n9 : a\n", (PLAIN,))
        self.no_release(3, "levels 0\n-3 : a\n-20 : a\n", (PLAIN,))

    def test_parts_that_no_value_is_at_the_level(self):
        for row in ("3 north : a", "12 north : a", "-1 north : a", "* north : a", "north north : a",
                    "5 york : a", "5 land : a", "5 * : a", "5 leeds : a", "5 5 : a", "north 5 : a",
                    "5 North : a", "5 : : a", ": north : a", "5, north : a"):
            self.no_group(row)
        for ladder, level, words in (
            (PLAIN, 0, ("*", "a", "1000000000", "-1000000000", "10000000000")),
            (PLAIN, 1, ("0", "5", "-5", "a", "**")),
            (AGES, 1, ("-1000000005", "1000000000", "-1", "*", "-999999999")),
            (AGES, 3, ("-1000000050", "1000000000", "25", "-5", "*")),
            (AGES, 4, ("0", "50", "-50")),
            (("num", (999999998,)), 1, ("-2999999994", "1999999996", "999999999", "1", "-999999999")),
            (PLACES, 0, ("north", "land", "*", "leeds", "0")),
            (PLACES, 1, ("york", "land", "*", "west", "1")),
            (PLACES, 2, ("york", "north", "*")),
            (PLACES, 3, ("york", "north", "land", "0", "**")),
            (SHORT, 0, ("*", "maybe", "y")),
            (SHORT, 1, ("yes", "no")),
        ):
            for word in words:
                self.no_release(2, f"levels {level}\n{word} : a\n", (ladder,))
                self.no_release(2, f"levels {level}\n{word} : a", (ladder,))

    def test_how_numbers_are_written(self):
        for word in ("05", "005", "-05", "+5", "-0", "00", "--5", "5-", "-", "5.0", "", "5" * 5000):
            self.no_group(f"{word} north : a")

    def test_too_few_and_too_many_parts(self):
        for row in ("5 : a", "north : a", ": a", "5 north north : a", "5 5 north : a", "5 north yes : a"):
            self.no_group(row)

    def test_colons(self):
        for row in ("5 north cold flu", "5 north : : cold", "5 north : cold :", "5 north :cold", "5 north: cold",
                    "5 north :: cold", "5 : north : cold", "5 north ; cold", "5 north cold : flu",
                    "5 north : cold : flu", "5 north , cold", "5 north"):
            self.no_group(row)

    def test_secrets(self):
        for row in ("5 north :", "5 north : ", "5 north : flu cold", "5 north : b a", "5 north : a b a",
                    "5 north : a c b", "5 north : Cold", "5 north : co1d", "5 north : 5", "5 north : *",
                    "5 north : abcdefghijklm", "5 north : cold Flu", "5 north : cold,flu", "5 north : cold 5"):
            self.no_group(row)

    def test_blanks_and_tabs_and_empty_rows(self):
        for row in ("5  north : a", "5 north  : a", "5 north :  a", "5 north : a  b", " 5 north : a",
                    "5 north : a ", "5\tnorth : a", "5 north\t: a", "5 north :\ta", "5 north : a\tb",
                    "5 north : a\t", "\t5 north : a", "", " ", "\t"):
            self.no_group(row)
        self.no_release(2, lines(self.LEVELS) + "\n")
        self.no_release(3, lines(self.LEVELS, self.RIGHT) + "\n")

    def test_of_two_wrong_rows_the_first_one_is_told(self):
        self.no_release(1, lines("levels 9 9", "x", self.RIGHT))
        self.no_release(2, lines(self.LEVELS, "x", "y"))
        self.no_release(3, lines(self.LEVELS, self.MORE, self.RIGHT, self.RIGHT, "x"))
        self.no_release(2, lines(self.LEVELS, "5 north :") + "x")

    def test_a_text_for_other_ladders(self):
        text = lines(self.LEVELS, self.RIGHT)
        self.no_release(1, text, (AGES,))
        self.no_release(1, text, (AGES, PLACES, SHORT))
        self.no_release(2, text, (PLACES, AGES))
        self.no_release(2, text, (("num", (10, 50)), PLACES))


class Asked(unittest.TestCase):
    def test_arguments_by_the_names_of_the_interface(self):
        release = ((0,), (((5,), ("a",)),))
        self.assertEqual(show_table(table=MIXED), ALL_SHOWN)
        self.assertEqual(read_table(text=ALL_SHOWN), MIXED)
        self.assertEqual(show_release(release=release), "levels 0\n5 : a\n")
        self.assertEqual(read_release(text="levels 0\n5 : a\n", ladders=(PLAIN,)), release)
        self.assertEqual(read_release(ladders=(PLAIN,), text="levels 0\n5 : a\n"), release)

    def test_asked_again_the_same_is_told(self):
        for _ in range(2):
            self.assertEqual(show_table(NUMBERS), show_table(copy.deepcopy(NUMBERS)))
            self.assertEqual(read_table(show_table(EMPTY)), EMPTY)
            with self.assertRaises(NoText):
                read_table("num\nnum 1\n")


if __name__ == "__main__":
    unittest.main()
