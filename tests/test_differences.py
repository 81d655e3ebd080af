"""Point [8]: starts that show a difference between two rows."""

import itertools
import random
import unittest

from glueroom.differences import differ, is_difference
from glueroom.pictures import same
from glueroom.rows import Free, Join, Move, Row, Swap, run
from tests.helpers import (
    all_starts, all_watched, fault, few_tuples, mixed_pairs, mixed_rows, short_rows, start_with, varied_rows, view,
)


def shows(row, other, start, watched):
    """Return whether the watched people are divided differently from a start, by running both rows."""
    return view(run(row, start).groups, watched) != view(run(other, start).groups, watched)


def smallest(row, other, watched):
    """Return the first of all tuples of at most two pairs that shows a difference."""
    for pairs in few_tuples(row.people):
        if shows(row, other, start_with(row.people, pairs), watched):
            return pairs
    return None


def neighbours(row, chance):
    """Return rows that differ little from a row: some only in what they join and leave behind."""
    people = row.people
    one, other = chance.sample(range(people), 2)
    commands = row.commands
    return [
        Row(people, (Join(one, other),) + commands),
        Row(people, (Swap(one, other),) + commands),
        Row(people, commands + (Swap(one, other),)),
        Row(people, commands + (Free(one),)),
        Row(people, (Join(one, other),) + commands + (Free(one), Free(other))),
        Row(people, commands + (Free(one), Free(other))),
    ]


class TestDiffer(unittest.TestCase):
    def setUp(self):
        self.met = {}

    def check(self, row, other, watched):
        wanted = smallest(row, other, range(row.people) if watched is None else watched)
        self.assertEqual(differ(row, other, watched=watched), wanted)
        self.assertEqual(differ(other, row, watched=watched), wanted)
        self.assertIs(same(row, other, watched=watched), wanted is None)
        many = None if wanted is None else len(wanted)
        self.met[many] = self.met.get(many, 0) + 1
        return wanted

    def check_none(self, row, other, watched):
        """Check, where no few pairs show a difference, that no start does."""
        if self.check(row, other, watched) is None:
            seen_by = range(row.people) if watched is None else watched
            for start in all_starts(row.people):
                self.assertFalse(shows(row, other, start, seen_by))

    def check_neighbours(self, people, many, most, seed):
        chance = random.Random(seed)
        for row in varied_rows(people, many, most, seed):
            others = neighbours(row, chance)
            for first, second in ((row, chance.choice(others)), chance.sample(others, 2), (others[4], others[5])):
                watched = chance.choice([None, (), chance.choices(range(people), k=3), chance.sample(range(people), 2)])
                self.check_none(first, second, watched)

    def test_one_and_two_people(self):
        for people in (1, 2):
            rows = short_rows(people, 1)
            for row, other in itertools.product(rows, repeat=2):
                for watched in all_watched(people) + [None]:
                    self.check_none(row, other, watched)

    def test_three_people_and_all_watched(self):
        rows = mixed_rows(3, 20, 5, 1) + varied_rows(3, 20, 5, 2)
        for row, other in itertools.combinations(rows, 2):
            self.check_none(row, other, None)

    def test_four_people_and_all_sets_of_watched(self):
        chance = random.Random(3)
        for row in varied_rows(4, 25, 5, 4):
            for other in neighbours(row, chance):
                for watched in all_watched(4):
                    self.check(row, other, watched)

    def test_up_to_six_people(self):
        self.check_neighbours(4, 60, 6, 5)
        self.check_neighbours(5, 60, 7, 6)
        self.check_neighbours(6, 60, 8, 7)
        # No kind of result is missing here.
        for many in (None, 0, 1, 2):
            self.assertGreater(self.met.get(many, 0), 10, many)

    def test_nobody_watched(self):
        for row, other in itertools.combinations(mixed_rows(4, 8, 6, 8), 2):
            self.assertIsNone(differ(row, other, watched=[]))
            self.assertIsNone(differ(row, other, watched=()))

    def test_the_examples(self):
        self.assertEqual(differ(Row(3, [Swap(0, 1)]), Row(3, [])), ((0, 2),))
        row = Row(4, [Join(0, 1), Free(0), Free(1)])
        other = Row(4, [Free(0), Free(1)])
        self.assertEqual(differ(row, other), ((0, 2), (1, 3)))
        self.assertEqual(differ(other, row), ((0, 2), (1, 3)))

    def test_no_pair_is_needed(self):
        self.assertEqual(differ(Row(3, [Join(0, 1)]), Row(3, [])), ())
        self.assertIsNone(differ(Row(3, [Free(0)]), Row(3, []), watched=[2, 1]))
        self.assertEqual(differ(Row(3, [Free(0)]), Row(3, []), watched=[2, 0]), ((0, 2),))

    def test_kinds_of_the_results(self):
        row = Row(4, [Join(0, 1), Free(0), Free(1)])
        found = differ(row, Row(4, [Free(0), Free(1)]))
        self.assertIs(type(found), tuple)
        self.assertEqual([type(pair) for pair in found], [tuple, tuple])
        self.assertIs(type(differ(Row(3, [Join(0, 1)]), Row(3, []))), tuple)

    def test_dead_blocks(self):
        # What 0 and 1 share at the beginning is seen only if it connects 2 and 3.
        row = Row(4, [Join(0, 1), Free(0), Move(1, 0)])
        other = Row(4, [Free(0), Move(1, 0)])
        self.assertEqual(self.check(row, other, None), ((0, 2), (1, 3)))

    def test_long_rows_of_16_people(self):
        turn = [Swap(one, one + 1) for one in range(15)] * 4
        row = Row(16, turn)
        back = Row(16, turn[::-1])
        self.assertEqual(self.check(row, back, None), ((0, 1),))
        self.assertIsNone(differ(row, row))
        self.assertIsNone(differ(row, back, watched=[0, 8]))
        frees = [Free(person) for person in range(14)]
        self.assertIsNotNone(self.check(Row(16, turn[:44] + frees), Row(16, turn[:43] + frees), None))
        self.assertIsNone(differ(Row(16, turn[:45] + frees), Row(16, turn[:44] + frees)))
        for first, second in zip(mixed_rows(16, 12, 60, 9), mixed_rows(16, 12, 60, 10)):
            self.assertEqual(differ(first, second), differ(second, first))
            self.check(first, second, None)

    def test_two_pairs_of_16_people(self):
        frees = [Free(person) for person in range(12)] + [Free(14), Free(15)]
        row = Row(16, [Join(14, 15)] + frees)
        self.assertEqual(differ(row, Row(16, frees)), ((12, 14), (13, 15)))
        self.assertEqual(differ(row, Row(16, frees), watched=[13, 5, 12]), ((12, 14), (13, 15)))
        self.assertIsNone(differ(row, Row(16, frees), watched=[13, 5, 11]))

    def test_other_numbers_of_people(self):
        for watched in (None, [], [9]):
            self.assertEqual(fault(differ, Row(2, []), Row(3, []), watched=watched), ("OtherCount",))

    def test_the_first_invalid_watched_person(self):
        row = Row(3, [Free(0)])
        for other in (row, Row(3, [])):
            self.assertEqual(fault(differ, row, other, watched=[0, 3, -1]), ("NoPerson", 3))
            self.assertEqual(fault(differ, row, other, watched=(-1, 3)), ("NoPerson", -1))


class TestIsDifference(unittest.TestCase):
    def check(self, row, other, pairs, watched=None):
        seen_by = range(row.people) if watched is None else watched
        wanted = shows(row, other, start_with(row.people, pairs), seen_by)
        self.assertIs(is_difference(row, other, pairs, watched=watched), wanted)
        self.assertIs(is_difference(other, row, pairs, watched=watched), wanted)
        return wanted

    def test_all_short_sequences_of_three_people(self):
        pairs = list(itertools.product(range(3), repeat=2))
        rows = [Row(3, []), Row(3, [Swap(0, 1)]), Row(3, [Free(2)]), Row(3, [Move(0, 1)]), Row(3, [Join(0, 2)])]
        for many in (0, 1, 2):
            for chosen in itertools.product(pairs, repeat=many):
                for row, other in itertools.combinations(rows, 2):
                    self.check(row, other, chosen)

    def test_long_sequences(self):
        found = []
        for at, row in enumerate(varied_rows(6, 60, 6, 11)):
            for other in neighbours(row, random.Random(at)):
                for watched in (None, [5, 0, 3, 5], (1, 2)):
                    found.append(self.check(row, other, mixed_pairs(6, at % 7, at), watched))
        self.assertGreater(found.count(True), 100)
        self.assertGreater(found.count(False), 100)

    def test_very_long_sequences(self):
        row = Row(16, [Swap(0, 1)])
        other = Row(16, [])
        self.assertIs(is_difference(row, other, [[15, 1]] * 1000), True)
        self.assertIs(is_difference(row, other, [[15, 1], (0, 15)] * 1000), False)

    def test_the_example(self):
        self.assertIs(is_difference(Row(3, [Swap(0, 1)]), Row(3, []), [(2, 1), (1, 1)]), True)

    def test_no_pairs(self):
        for pairs in ([], (), [(1, 1)], [[0, 0], (2, 2)]):
            self.assertIs(is_difference(Row(3, [Swap(0, 1)]), Row(3, []), pairs), False)
            self.assertIs(is_difference(Row(3, [Join(0, 1)]), Row(3, []), pairs), True)

    def test_order_and_repetition_have_no_effect(self):
        row = Row(4, [Join(0, 1), Free(0), Free(1)])
        other = Row(4, [Free(0), Free(1)])
        for pairs in itertools.permutations([(0, 2), (3, 1), [1, 3], [2, 2]]):
            self.assertIs(is_difference(row, other, pairs), True)
            self.assertIs(is_difference(row, other, list(pairs)), True)
        for pairs in ([(0, 2)], [(1, 3)], [(0, 2), (2, 0)], [(0, 2), (1, 3), (1, 2)]):
            self.assertIs(is_difference(row, other, pairs), False)

    def test_what_differ_finds_is_a_difference(self):
        rows = mixed_rows(5, 14, 6, 12)
        for row, other in itertools.combinations(rows, 2):
            for watched in (None, [0, 4, 2], []):
                pairs = differ(row, other, watched=watched)
                if pairs is not None:
                    self.assertIs(is_difference(row, other, pairs, watched=watched), True)

    def test_order_of_the_errors(self):
        row = Row(3, [])
        self.assertEqual(fault(is_difference, row, Row(2, []), [(9, 9)], watched=[8]), ("OtherCount",))
        self.assertEqual(fault(is_difference, row, row, [(9, 9)], watched=[0, 8, 7]), ("NoPerson", 8))
        self.assertEqual(fault(is_difference, row, row, [(0, 1), (2, 9), (-1, 0)], watched=[0]), ("NoPerson", 9))
        self.assertEqual(fault(is_difference, row, row, [[0, 1], [-1, 9]]), ("NoPerson", -1))
        self.assertEqual(fault(is_difference, row, row, ((3, 3),), watched=[]), ("NoPerson", 3))
