"""Point [3]: divisions."""

import itertools
import unittest

from glueroom.divisions import Division, alone, together
from tests.helpers import all_groups, fault, ordered


class TestDivision(unittest.TestCase):
    def test_people_from_1_to_16(self):
        for people in range(1, 17):
            division = Division(people, [])
            self.assertEqual(division.people, people)
            self.assertEqual(division.groups, tuple((person,) for person in range(people)))

    def test_other_numbers_of_people(self):
        for people in (0, -1, 17, -16, 10 ** 30):
            self.assertEqual(fault(Division, people, []), ("BadCount", "people", people))

    def test_one_person(self):
        self.assertEqual(Division(1, [[0]]).groups, ((0,),))

    def test_all_in_one_room(self):
        self.assertEqual(Division(16, [range(15, -1, -1)]).groups, (tuple(range(16)),))

    def test_people_in_no_group_are_alone(self):
        self.assertEqual(Division(5, [[4, 2]]).groups, ((0,), (1,), (2, 4), (3,)))

    def test_groups_are_ordered_by_their_smallest_people(self):
        self.assertEqual(Division(6, [[5, 1], [4], [3, 0, 2]]).groups, ((0, 2, 3), (1, 5), (4,)))

    def test_any_order_of_groups_and_of_people(self):
        for groups in all_groups(4):
            wanted = ordered(groups)
            for order in itertools.permutations(groups):
                self.assertEqual(Division(4, order).groups, wanted)
                self.assertEqual(Division(4, [group[::-1] for group in order]).groups, wanted)

    def test_groups_are_a_tuple_of_tuples(self):
        groups = Division(3, [[2, 0]]).groups
        self.assertIs(type(groups), tuple)
        self.assertEqual([type(group) for group in groups], [tuple, tuple])

    def test_empty_group(self):
        self.assertEqual(fault(Division, 3, [[]]), ("BadCount", "group", 0))
        self.assertEqual(fault(Division, 3, [[0], (), [1]]), ("BadCount", "group", 0))

    def test_person_who_does_not_exist(self):
        for person in (-1, 3, 4, -3, 10 ** 30):
            self.assertEqual(fault(Division, 3, [[0], [1, person]]), ("NoPerson", person))

    def test_last_person_exists(self):
        self.assertEqual(Division(3, [[2]]).groups, ((0,), (1,), (2,)))

    def test_person_twice_in_one_group(self):
        self.assertEqual(fault(Division, 3, [[1, 2, 1]]), ("Twice", 1))

    def test_person_in_two_groups(self):
        self.assertEqual(fault(Division, 3, [[1, 2], [0, 2]]), ("Twice", 2))

    def test_people_are_checked_before_groups(self):
        self.assertEqual(fault(Division, 17, [[], [-1]]), ("BadCount", "people", 17))
        self.assertEqual(fault(Division, 0, [[0]]), ("BadCount", "people", 0))

    def test_first_fault_among_several(self):
        self.assertEqual(fault(Division, 3, [[0, 7], []]), ("NoPerson", 7))
        self.assertEqual(fault(Division, 3, [[], [7]]), ("BadCount", "group", 0))
        self.assertEqual(fault(Division, 3, [[0], [0, 7]]), ("Twice", 0))
        self.assertEqual(fault(Division, 3, [[0, 0], []]), ("Twice", 0))
        self.assertEqual(fault(Division, 3, [[7, 0, 0]]), ("NoPerson", 7))
        self.assertEqual(fault(Division, 3, [[7, 7]]), ("NoPerson", 7))
        self.assertEqual(fault(Division, 3, [[1, 0], [2, 1, 0]]), ("Twice", 1))
        self.assertEqual(fault(Division, 3, [[0], [-1, 9]]), ("NoPerson", -1))


class TestAlone(unittest.TestCase):
    def test_everybody_is_alone(self):
        for people in (1, 2, 16):
            self.assertEqual(alone(people), Division(people, []))

    def test_wrong_numbers_of_people(self):
        for people in (0, 17, -5):
            self.assertEqual(fault(alone, people), ("BadCount", "people", people))


class TestTogether(unittest.TestCase):
    def test_against_the_groups(self):
        for groups in all_groups(4):
            division = Division(4, groups)
            for one, other in itertools.product(range(4), repeat=2):
                wanted = any(one in group and other in group for group in groups)
                self.assertIs(together(division, one, other), wanted)

    def test_the_same_person(self):
        self.assertIs(together(alone(1), 0, 0), True)
        self.assertIs(together(Division(3, [[0, 2]]), 2, 2), True)

    def test_both_answers(self):
        division = Division(3, [[0, 2]])
        self.assertIs(together(division, 2, 0), True)
        self.assertIs(together(division, 0, 1), False)

    def test_people_who_do_not_exist(self):
        division = Division(3, [[0, 2]])
        for person in (-1, 3, 17):
            self.assertEqual(fault(together, division, person, 0), ("NoPerson", person))
            self.assertEqual(fault(together, division, 0, person), ("NoPerson", person))
            self.assertEqual(fault(together, division, person, person), ("NoPerson", person))

    def test_one_is_checked_before_other(self):
        self.assertEqual(fault(together, alone(2), 5, -1), ("NoPerson", 5))
        self.assertEqual(fault(together, alone(2), -1, 5), ("NoPerson", -1))
