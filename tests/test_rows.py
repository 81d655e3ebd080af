"""Points [4] and [5]: commands, rows, and running them."""

import unittest

from glueroom.divisions import Division, alone
from glueroom.rows import Free, Join, Move, Row, Swap, run
from tests.helpers import all_commands, all_starts, fault, mixed_rows, short_rows, walk

NUMBERS = (0, 3, -1, 16, 10 ** 30, -(10 ** 30))
PAIRED = (Join, Swap, Move)


def ends(people, commands, groups):
    return run(Row(people, commands), Division(people, groups)).groups


class TestCommands(unittest.TestCase):
    def test_fields_of_any_numbers(self):
        for one in NUMBERS:
            self.assertEqual(vars(Free(one)), {"one": one})
            for other in NUMBERS:
                for command in PAIRED:
                    self.assertEqual(vars(command(one, other)), {"one": one, "other": other})

    def test_equality(self):
        for command in PAIRED:
            self.assertTrue(command(1, 2) == command(1, 2))
            self.assertFalse(command(1, 2) != command(1, 2))
            self.assertTrue(command(1, 2) != command(2, 1))
            self.assertTrue(command(1, 2) != command(1, 3))
            self.assertTrue(command(1, 2) != command(3, 2))
        self.assertTrue(Free(1) == Free(1))
        self.assertFalse(Free(1) != Free(1))
        self.assertTrue(Free(1) != Free(2))

    def test_commands_of_different_classes_differ(self):
        commands = [Join(1, 1), Free(1), Swap(1, 1), Move(1, 1)]
        for at, command in enumerate(commands):
            for place, other in enumerate(commands):
                self.assertIs(command == other, at == place)


class TestRow(unittest.TestCase):
    def test_fields(self):
        row = Row(3, [Join(0, 2), Free(1)])
        self.assertEqual(row.people, 3)
        self.assertEqual(row.commands, (Join(0, 2), Free(1)))
        self.assertIs(type(row.commands), tuple)

    def test_up_to_60_commands_as_list_and_as_tuple(self):
        for many in (0, 1, 59, 60):
            commands = [Free(0)] * many
            self.assertEqual(Row(1, commands).commands, tuple(commands))
            self.assertEqual(Row(1, tuple(commands)), Row(1, commands))

    def test_too_many_commands(self):
        for many in (61, 62, 200):
            self.assertEqual(fault(Row, 1, [Free(0)] * many), ("BadCount", "commands", many))
            self.assertEqual(fault(Row, 1, (Free(0),) * many), ("BadCount", "commands", many))

    def test_numbers_of_people(self):
        for people in (1, 16):
            self.assertEqual(Row(people, []).people, people)
        for people in (0, 17, -1):
            self.assertEqual(fault(Row, people, []), ("BadCount", "people", people))

    def test_each_named_person_is_checked(self):
        for person in (-1, 2, 9):
            self.assertEqual(fault(Row, 2, [Free(person)]), ("NoPerson", person))
            for command in PAIRED:
                self.assertEqual(fault(Row, 2, [command(person, 0)]), ("NoPerson", person))
                self.assertEqual(fault(Row, 2, [command(0, person)]), ("NoPerson", person))

    def test_one_before_other(self):
        for command in PAIRED:
            self.assertEqual(fault(Row, 2, [command(7, -1)]), ("NoPerson", 7))
            self.assertEqual(fault(Row, 2, [command(-1, 7)]), ("NoPerson", -1))

    def test_command_by_command(self):
        self.assertEqual(fault(Row, 2, [Free(0), Join(0, 5), Free(9), Move(8, 0)]), ("NoPerson", 5))
        self.assertEqual(fault(Row, 2, [Move(0, 8), Swap(9, 0)]), ("NoPerson", 8))

    def test_order_of_the_errors(self):
        self.assertEqual(fault(Row, 17, [Free(-1)] * 61), ("BadCount", "people", 17))
        self.assertEqual(fault(Row, 16, [Free(-1)] * 61), ("BadCount", "commands", 61))
        self.assertEqual(fault(Row, 16, [Free(-1)] * 60), ("NoPerson", -1))
        self.assertEqual(fault(Row, 0, [Free(0)]), ("BadCount", "people", 0))


class TestEachCommand(unittest.TestCase):
    def test_join(self):
        self.assertEqual(ends(5, [Join(1, 3)], [[0, 1], [2, 3]]), ((0, 1, 2, 3), (4,)))
        self.assertEqual(ends(5, [Join(3, 1)], [[0, 1], [2, 3]]), ((0, 1, 2, 3), (4,)))

    def test_free(self):
        self.assertEqual(ends(3, [Free(1)], [[0, 1, 2]]), ((0, 2), (1,)))
        self.assertEqual(ends(3, [Free(1)], [[0, 2]]), ((0, 2), (1,)))
        self.assertEqual(ends(3, [Free(0), Free(1), Free(2)], [[0, 1, 2]]), ((0,), (1,), (2,)))

    def test_swap(self):
        self.assertEqual(ends(5, [Swap(1, 3)], [[0, 1], [2, 3]]), ((0, 3), (1, 2), (4,)))
        self.assertEqual(ends(5, [Swap(4, 0)], [[0, 1], [2, 3]]), ((0,), (1, 4), (2, 3)))

    def test_move(self):
        self.assertEqual(ends(5, [Move(1, 3)], [[0, 1], [2, 3]]), ((0,), (1, 2, 3), (4,)))
        self.assertEqual(ends(5, [Move(3, 1)], [[0, 1], [2, 3]]), ((0, 1, 3), (2,), (4,)))

    def test_the_same_person_twice_changes_nothing(self):
        for start in all_starts(3):
            for command in PAIRED:
                for person in range(3):
                    self.assertEqual(run(Row(3, [command(person, person)]), start), start)

    def test_people_who_share_a_room_change_nothing(self):
        start = Division(4, [[0, 1, 3]])
        for command in PAIRED:
            for one, other in ((0, 1), (1, 0), (3, 1), (0, 3)):
                self.assertEqual(run(Row(4, [command(one, other)]), start), start)

    def test_a_room_that_is_left_can_be_reached_no_more(self):
        self.assertEqual(ends(3, [Free(0), Free(0), Move(1, 0)], []), ((0, 1), (2,)))
        self.assertEqual(ends(3, [Move(0, 1), Free(0), Join(0, 2)], []), ((0, 2), (1,)))


class TestRun(unittest.TestCase):
    def test_against_people_who_walk(self):
        for people, most in ((1, 3), (2, 3), (3, 2), (4, 1)):
            starts = all_starts(people)
            for row in short_rows(people, most):
                for start in starts:
                    self.assertEqual(run(row, start).groups, walk(row, start))

    def test_long_rows_against_people_who_walk(self):
        starts = [alone(16), Division(16, [range(16)]), Division(16, [[0, 5, 9], [15, 2], [7, 8]])]
        for row in mixed_rows(16, 60, 60, 1):
            for start in starts:
                self.assertEqual(run(row, start).groups, walk(row, start))

    def test_several_rounds_against_people_who_walk(self):
        for row in mixed_rows(5, 30, 12, 2):
            for rounds in (0, 1, 2, 3, 17):
                start = Division(5, [[0, 3], [1, 4]])
                self.assertEqual(run(row, start, rounds=rounds).groups, walk(row, start, rounds))

    def test_the_result_is_a_division(self):
        end = run(Row(3, [Swap(0, 1)]), Division(3, [[0, 2]]))
        self.assertEqual(end, Division(3, [[1, 2]]))
        self.assertEqual(end.people, 3)

    def test_one_round_unless_told_otherwise(self):
        row = Row(3, [Swap(0, 1), Swap(1, 2)])
        start = Division(3, [[0, 1]])
        self.assertEqual(run(row, start), run(row, start, rounds=1))
        self.assertNotEqual(run(row, start), run(row, start, rounds=2))

    def test_no_rounds(self):
        for start in all_starts(3):
            self.assertEqual(run(Row(3, [Join(0, 1), Free(2)]), start, rounds=0), start)

    def test_1000_rounds(self):
        row = Row(3, [Swap(0, 1), Swap(1, 2)])
        start = Division(3, [[0, 1]])
        self.assertEqual(run(row, start, rounds=1000), run(row, start, rounds=1))
        self.assertEqual(run(row, start, rounds=999), start)

    def test_1000_rounds_of_60_commands(self):
        commands = (all_commands(16) * 2)[5:305:5]
        row = Row(16, commands)
        self.assertEqual(run(row, alone(16), rounds=1000).groups, walk(row, alone(16), 1000))

    def test_wrong_numbers_of_rounds(self):
        for rounds in (-1, 1001, -1000, 10 ** 30):
            self.assertEqual(fault(run, Row(2, []), alone(2), rounds=rounds), ("BadCount", "rounds", rounds))

    def test_other_numbers_of_people(self):
        self.assertEqual(fault(run, Row(2, []), alone(3)), ("OtherCount",))
        self.assertEqual(fault(run, Row(3, []), alone(2)), ("OtherCount",))
        self.assertEqual(fault(run, Row(3, []), alone(2), rounds=0), ("OtherCount",))

    def test_other_count_before_bad_count(self):
        for rounds in (-1, 1001):
            self.assertEqual(fault(run, Row(2, []), alone(3), rounds=rounds), ("OtherCount",))

    def test_the_start_stays_as_it_is(self):
        start = Division(4, [[0, 2], [1, 3]])
        row = Row(4, [Join(0, 1), Free(0), Swap(1, 2), Move(3, 0)])
        run(row, start, rounds=7)
        self.assertEqual(start.groups, ((0, 2), (1, 3)))
        self.assertEqual(start.people, 4)
        self.assertEqual(row.commands, (Join(0, 1), Free(0), Swap(1, 2), Move(3, 0)))
