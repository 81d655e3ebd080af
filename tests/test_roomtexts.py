"""Point [19]: divisions and rows as texts."""

import itertools
import random
import unittest

from glueroom.divisions import Division, alone
from glueroom.roomtexts import division_text, read_division, read_row, row_text
from glueroom.rows import Free, Join, Move, Row, Swap
from tests.helpers import all_commands, all_starts, fault, mixed_rows

BIG = int("9" * 31)

# Words that are no numbers.
BAD_WORDS = ("", "00", "01", "007", "-1", "+1", "-0", "x", "1x", "x1", "1.0", "1_0", "0x1", "||", ",", "1" * 32, "0" * 31)


class TestDivisionText(unittest.TestCase):
    def test_as_stated(self):
        self.assertEqual(division_text(Division(4, [[3, 1]])), "0 | 1 3 | 2")
        self.assertEqual(division_text(alone(1)), "0")
        self.assertEqual(division_text(alone(3)), "0 | 1 | 2")
        self.assertEqual(division_text(Division(3, [[2, 0, 1]])), "0 1 2")
        self.assertEqual(
            division_text(Division(16, [[15, 0], [10, 9]])),
            "0 15 | 1 | 2 | 3 | 4 | 5 | 6 | 7 | 8 | 9 10 | 11 | 12 | 13 | 14")

    def test_read_again(self):
        for people in (1, 2, 3, 4, 5):
            for division in all_starts(people):
                again = read_division(people, division_text(division))
                self.assertEqual(again, division)
                self.assertIs(type(again), Division)
        chance = random.Random(1)
        for _ in range(50):
            order = chance.sample(range(16), 16)
            division = Division(16, [order[:5], order[5:7], order[7:11]])
            self.assertEqual(read_division(16, division_text(division)), division)


class TestReadDivision(unittest.TestCase):
    def test_people_who_are_not_mentioned_are_alone(self):
        self.assertEqual(read_division(4, "1 3"), Division(4, [[1, 3]]))
        self.assertEqual(read_division(16, "15"), alone(16))
        self.assertEqual(read_division(3, "0"), alone(3))

    def test_groups_and_people_in_any_order(self):
        wanted = Division(5, [[0, 3, 4], [1, 2]])
        for first in itertools.permutations("034"):
            for second in itertools.permutations("12"):
                for groups in itertools.permutations([" ".join(first), " ".join(second)]):
                    self.assertEqual(read_division(5, " | ".join(groups)), wanted)

    def test_the_empty_text(self):
        self.assertEqual(fault(read_division, 3, ""), ("BadText", 0))
        self.assertEqual(fault(read_division, 3, " | "), ("BadText", 0))

    def test_malformed_words(self):
        for word in BAD_WORDS:
            self.assertEqual(fault(read_division, 4, word), ("BadText", 0), word)
            self.assertEqual(fault(read_division, 4, "0 " + word), ("BadText", 0), word)
            self.assertEqual(fault(read_division, 4, word + " 0"), ("BadText", 0), word)
            self.assertEqual(fault(read_division, 4, "2 " + word + " 0"), ("BadText", 0), word)
            self.assertEqual(fault(read_division, 4, "0 | 1 | " + word), ("BadText", 2), word)
            self.assertEqual(fault(read_division, 4, "0 | " + word + " 1 | 2"), ("BadText", 1), word)

    def test_blanks_and_bars(self):
        for text, place in (
            (" 0", 0), ("0 ", 0), ("0  1", 0), (" ", 0), ("0 |", 0), ("| 0", 0), ("0|1", 0), ("0 |1", 0), ("0| 1", 0),
            ("0 | ", 1), (" | 0", 0), ("0 |  | 1", 1), ("0 | | 1", 1), ("0 |  1", 1), ("0  | 1", 0), ("0 | 1 ", 1),
            ("0 | 1 | 2  3", 2), ("0 || 1", 0), ("0, 1", 0),
        ):
            self.assertEqual(fault(read_division, 4, text), ("BadText", place), text)

    def test_the_first_malformed_part_whatever_comes_after_it(self):
        for text, place in (
            ("x | y", 0), ("0 | x | y | 0 0", 1), ("0 | 1 | 2 | 03 | ", 3), ("9 | x", 1), ("0 0 | x", 1), ("0 | 0 | ", 2),
        ):
            self.assertEqual(fault(read_division, 4, text), ("BadText", place), text)

    def test_malformed_before_the_errors_of_divisions(self):
        for people in (0, 17, -1, 3):
            self.assertEqual(fault(read_division, people, "9 9 | x"), ("BadText", 1))

    def test_the_errors_of_divisions(self):
        self.assertEqual(fault(read_division, 0, "0 0"), ("BadCount", "people", 0))
        self.assertEqual(fault(read_division, 17, "0"), ("BadCount", "people", 17))
        self.assertEqual(fault(read_division, 3, "0 | 3 | 0"), ("NoPerson", 3))
        self.assertEqual(fault(read_division, 3, "0 1 | 1 | 7"), ("Twice", 1))
        self.assertEqual(fault(read_division, 3, "0 0"), ("Twice", 0))

    def test_long_numbers(self):
        self.assertEqual(fault(read_division, 3, "9" * 31), ("NoPerson", BIG))
        self.assertEqual(fault(read_division, 3, "0 | 1" + "0" * 30), ("NoPerson", 10 ** 30))
        self.assertEqual(fault(read_division, 3, "9" * 32), ("BadText", 0))
        self.assertEqual(fault(read_division, 3, "1" + "0" * 31), ("BadText", 0))


class TestRowText(unittest.TestCase):
    def test_as_stated(self):
        self.assertEqual(row_text(Row(3, [Join(0, 1), Free(2)])), "join 0 1, free 2")
        self.assertEqual(row_text(Row(16, [Swap(15, 1), Move(2, 10)])), "swap 15 1, move 2 10")
        self.assertEqual(row_text(Row(3, [Move(1, 1)])), "move 1 1")
        self.assertEqual(row_text(Row(3, [])), "none")

    def test_read_again(self):
        for people in (1, 2, 4):
            for command in all_commands(people):
                row = Row(people, [command])
                again = read_row(people, row_text(row))
                self.assertEqual(again, row)
                self.assertIs(type(again), Row)
                self.assertIs(type(again.commands[0]), type(command))
        for people in (1, 5, 16):
            for row in mixed_rows(people, 40, 60, people):
                self.assertEqual(read_row(people, row_text(row)), row)


class TestReadRow(unittest.TestCase):
    def test_each_command(self):
        for text, command in (
            ("join 0 2", Join(0, 2)), ("join 2 0", Join(2, 0)), ("free 1", Free(1)), ("swap 1 2", Swap(1, 2)),
            ("move 2 1", Move(2, 1)), ("join 1 1", Join(1, 1)),
        ):
            self.assertEqual(read_row(3, text), Row(3, [command]))
        self.assertEqual(read_row(3, "free 0, free 0, swap 1 2"), Row(3, [Free(0), Free(0), Swap(1, 2)]))

    def test_none(self):
        self.assertEqual(read_row(3, "none"), Row(3, []))
        for text, place in (("none, free 0", 0), ("free 0, none", 1), ("none ", 0), (" none", 0), ("None", 0)):
            self.assertEqual(fault(read_row, 3, text), ("BadText", place), text)

    def test_the_empty_text(self):
        self.assertEqual(fault(read_row, 3, ""), ("BadText", 0))
        self.assertEqual(fault(read_row, 3, ", "), ("BadText", 0))

    def test_malformed_numbers(self):
        for word in BAD_WORDS:
            for text in (f"free {word}", f"join {word} 0", f"join 0 {word}", f"swap 0 {word}", f"move {word} {word}"):
                self.assertEqual(fault(read_row, 4, text), ("BadText", 0), text)
                self.assertEqual(fault(read_row, 4, "free 0, " + text), ("BadText", 1), text)

    def test_too_many_and_too_few_words(self):
        for text in (
            "join", "join 0", "join 0 1 2", "free", "free 0 1", "swap", "swap 1", "swap 0 1 2", "move", "move 0",
            "move 0 1 2", "0", "0 1", "join 0 1 free 2",
        ):
            self.assertEqual(fault(read_row, 4, text), ("BadText", 0), text)

    def test_other_words(self):
        for word in ("", "Join", "JOIN", "joins", "joi", "leave", "free,", "nones", "row", "0", "named", "after"):
            for rest in ("", " 0", " 0 1"):
                self.assertEqual(fault(read_row, 4, word + rest), ("BadText", 0), word + rest)

    def test_blanks_and_commas(self):
        for text, place in (
            (" free 0", 0), ("free 0 ", 0), ("free  0", 0), ("free 0,", 0), ("free 0,free 1", 0), (",free 0", 0),
            ("free 0, ", 1), (", free 0", 0), ("free 0,  free 1", 1), ("free 0 , free 1", 0), ("free 0, , free 1", 1),
            ("free 0, free 1, join 0  1", 2), ("free 0 | free 1", 0),
        ):
            self.assertEqual(fault(read_row, 4, text), ("BadText", place), text)

    def test_the_first_malformed_part_whatever_comes_after_it(self):
        many = ", ".join(["free 0"] * 70)
        for text, place in (
            ("x, y", 0), ("free 0, x, free 9, y", 1), ("free 9, join 0", 1), (many + ", x, y", 70), ("x, " + many, 0),
        ):
            self.assertEqual(fault(read_row, 4, text), ("BadText", place))

    def test_malformed_before_the_errors_of_rows(self):
        for people in (0, 17, -1, 3):
            self.assertEqual(fault(read_row, people, "free 9, x"), ("BadText", 1))

    def test_the_errors_of_rows(self):
        many = ", ".join(["free 9"] * 61)
        self.assertEqual(fault(read_row, 0, many), ("BadCount", "people", 0))
        self.assertEqual(fault(read_row, 17, "none"), ("BadCount", "people", 17))
        self.assertEqual(fault(read_row, 3, many), ("BadCount", "commands", 61))
        self.assertEqual(fault(read_row, 3, "free 0, swap 3 4, free 5"), ("NoPerson", 3))
        self.assertEqual(fault(read_row, 3, "move 0 4"), ("NoPerson", 4))
        self.assertEqual(len(read_row(1, ", ".join(["free 0"] * 60)).commands), 60)

    def test_long_numbers(self):
        self.assertEqual(fault(read_row, 3, "free " + "9" * 31), ("NoPerson", BIG))
        self.assertEqual(fault(read_row, 3, "join 0 1" + "0" * 30), ("NoPerson", 10 ** 30))
        self.assertEqual(fault(read_row, 3, "free " + "9" * 32), ("BadText", 0))
