"""Points [11] to [13]: who can meet, which start fits, and whether a shared room matters."""

import itertools
import random
import unittest

from glueroom.divisions import Division, alone, together
from glueroom.rows import Free, Join, Move, Row, Swap, run
from glueroom.wishes import matters, meeting, wish
from tests.helpers import (
    all_starts, all_watched, fault, few_tuples, mixed_pairs, mixed_rows, short_rows, start_with, varied_rows, view,
)


def some_rows():
    """Return rows of one to five people, of all kinds."""
    rows = short_rows(1, 1) + short_rows(2, 2) + short_rows(3, 1)
    for people in (3, 4, 5):
        rows += mixed_rows(people, 20, 7, people) + varied_rows(people, 40, 7, people)
    return rows


class TestMeeting(unittest.TestCase):
    def test_against_every_division(self):
        found = []
        for row in some_rows():
            ends = [run(row, start) for start in all_starts(row.people)]
            for one, other in itertools.product(range(row.people), repeat=2):
                met = {together(end, one, other) for end in ends}
                wanted = {(True,): "always", (False,): "never", (False, True): "sometimes"}[tuple(sorted(met))]
                self.assertEqual(meeting(row, one, other), wanted)
                found.append(wanted)
        for wanted in ("always", "never", "sometimes"):
            self.assertGreater(found.count(wanted), 200)

    def test_the_same_person_twice(self):
        for row in (Row(1, []), Row(1, [Free(0)]), Row(3, [Free(1)]), Row(16, [Join(0, 1)])):
            for person in range(row.people):
                self.assertEqual(meeting(row, person, person), "always")

    def test_the_example(self):
        row = Row(3, [Join(0, 1), Free(2)])
        self.assertEqual((meeting(row, 0, 1), meeting(row, 0, 2)), ("always", "never"))

    def test_16_people(self):
        row = Row(16, [Join(0, 15), Free(3), Move(4, 3), Free(5), Swap(7, 8)])
        self.assertEqual(meeting(row, 15, 0), "always")
        self.assertEqual(meeting(row, 3, 4), "always")
        self.assertEqual(meeting(row, 3, 5), "never")
        self.assertEqual(meeting(row, 15, 4), "never")
        self.assertEqual(meeting(row, 15, 8), "sometimes")

    def test_errors_for_one_before_other(self):
        row = Row(3, [Free(1)])
        for person in (-1, 3, 16):
            self.assertEqual(fault(meeting, row, person, 0), ("NoPerson", person))
            self.assertEqual(fault(meeting, row, 0, person), ("NoPerson", person))
            self.assertEqual(fault(meeting, row, person, -5), ("NoPerson", person))
            self.assertEqual(fault(meeting, row, person, person), ("NoPerson", person))


class TestWish(unittest.TestCase):
    def setUp(self):
        self.found = []

    def fits(self, end, wanted, apart):
        return all(together(end, *pair) for pair in wanted) and not any(together(end, *pair) for pair in apart)

    def check(self, row, ends, wanted, apart):
        fitting = [start for start, end in ends if self.fits(end, wanted, apart)]
        start = wish(row, wanted, apart)
        if not fitting:
            self.assertIsNone(start)
        else:
            self.assertIn(start, fitting)
            self.assertEqual(len(start.groups), max(len(other.groups) for other in fitting))
        self.found.append(None if start is None else row.people - len(start.groups))

    def ends(self, row):
        return [(start, run(row, start)) for start in all_starts(row.people)]

    def test_all_short_wishes(self):
        for people, rows in ((1, short_rows(1, 1)), (2, short_rows(2, 1)), (3, varied_rows(3, 20, 4, 1))):
            pairs = list(itertools.product(range(people), repeat=2))
            lists = [chosen for many in range(2) for chosen in itertools.product(pairs, repeat=many)]
            for row in rows:
                ends = self.ends(row)
                for wanted, apart in itertools.product(lists, repeat=2):
                    self.check(row, ends, wanted, apart)

    def test_against_every_division(self):
        for at, row in enumerate(some_rows() + varied_rows(5, 60, 6, 2)):
            ends = self.ends(row)
            for many in range(5):
                for unwanted in range(3):
                    chance = 100 * at + 10 * many + unwanted
                    wanted = mixed_pairs(row.people, many, chance)
                    self.check(row, ends, wanted, mixed_pairs(row.people, unwanted, -1 - chance))
        for many in (None, 0, 1, 2, 3):
            self.assertGreater(self.found.count(many), 20, many)

    def test_wishes_of_every_division(self):
        for row in varied_rows(4, 30, 5, 3):
            ends = self.ends(row)
            for wished in all_starts(4):
                pairs = list(itertools.combinations(range(4), 2))
                wanted = [pair for pair in pairs if together(wished, *pair)]
                self.check(row, ends, wanted, [pair for pair in pairs if pair not in wanted])

    def test_the_examples(self):
        self.assertEqual(wish(Row(3, [Swap(0, 1)]), [(0, 2)], [(0, 1)]).groups, ((0,), (1, 2)))
        self.assertIsNone(wish(Row(3, [Free(0)]), [(0, 2)], []))

    def test_no_wishes(self):
        for row in (Row(1, []), Row(3, [Free(0), Join(1, 2)]), Row(16, [])):
            self.assertEqual(wish(row, [], []), alone(row.people))
            self.assertEqual(wish(row, (), ()), alone(row.people))

    def test_pairs_of_equal_people(self):
        row = Row(3, [Free(0)])
        for person in range(3):
            self.assertEqual(wish(row, [(person, person)], []), alone(3))
            self.assertIsNone(wish(row, [], [(person, person)]))
            self.assertIsNone(wish(row, [(1, 2)], [[person, person]]))
        self.assertEqual(wish(Row(1, [Free(0)]), [(0, 0)], []), alone(1))
        self.assertIsNone(wish(Row(1, [Free(0)]), [], [(0, 0)]))

    def test_the_same_pair_wanted_and_not(self):
        self.assertIsNone(wish(Row(3, []), [(0, 1)], [(1, 0)]))
        self.assertIsNone(wish(Row(3, []), [(0, 1), (1, 2)], [(2, 0)]))

    def test_repeated_pairs(self):
        start = wish(Row(3, []), [(0, 1), (1, 0), (0, 1)], [(0, 2), (2, 0)])
        self.assertEqual(start, Division(3, [[0, 1]]))

    def test_16_people(self):
        row = Row(16, [Swap(0, 15), Join(1, 2), Free(5), Move(6, 5)])
        start = wish(row, [(0, 7), (7, 15), (2, 8), (5, 6)], [(0, 1), (5, 7)])
        end = run(row, start)
        self.assertTrue(self.fits(end, [(0, 7), (7, 15), (2, 8), (5, 6)], [(0, 1), (5, 7)]))
        self.assertEqual(len(start.groups), 13)
        everybody = wish(Row(16, []), [(0, person) for person in range(16)], [])
        self.assertEqual(everybody, Division(16, [range(16)]))
        self.assertIsNone(wish(row, [(5, 7)], []))

    def test_order_of_the_errors(self):
        row = Row(3, [Free(0)])
        self.assertEqual(fault(wish, row, [(0, 1), (1, 3), (-1, 0)], [(9, 9)]), ("NoPerson", 3))
        self.assertEqual(fault(wish, row, [(8, 3)], []), ("NoPerson", 8))
        self.assertEqual(fault(wish, row, [[0, 1]], [(2, 1), [0, -7], (9, 9)]), ("NoPerson", -7))
        self.assertEqual(fault(wish, row, [], [(5, -7)]), ("NoPerson", 5))
        self.assertEqual(fault(wish, row, [], [(16, 16)]), ("NoPerson", 16))


class TestMatters(unittest.TestCase):
    def setUp(self):
        self.found = []

    def changes(self, row, pairs, pair, watched):
        """Return whether a further pair at the beginning changes what is watched, by running the row."""
        first = run(row, start_with(row.people, pairs))
        second = run(row, start_with(row.people, list(pairs) + [pair]))
        return view(first.groups, watched) != view(second.groups, watched)

    def check(self, row, one, other, watched):
        seen_by = range(row.people) if watched is None else watched
        fitting = [pairs for pairs in few_tuples(row.people) if self.changes(row, pairs, (one, other), seen_by)]
        wanted = fitting[0] if fitting else None
        self.assertEqual(matters(row, one, other, watched=watched), wanted)
        self.assertEqual(matters(row, other, one, watched=watched), wanted)
        self.found.append(wanted if wanted is None else len(wanted))
        return wanted

    def check_none(self, row, one, other, watched):
        """Check, where few pairs are no surroundings, that no division is."""
        if self.check(row, one, other, watched) is None:
            seen_by = range(row.people) if watched is None else watched
            for start in all_starts(row.people):
                # Chains of pairs make the groups of the start.
                pairs = [pair for group in start.groups for pair in zip(group, group[1:])]
                self.assertFalse(self.changes(row, pairs, (one, other), seen_by))

    def test_few_people(self):
        for row in short_rows(1, 1) + short_rows(2, 1) + varied_rows(3, 20, 5, 4):
            for one, other in itertools.combinations_with_replacement(range(row.people), 2):
                for watched in [None] + all_watched(row.people):
                    self.check_none(row, one, other, watched)

    def test_four_and_five_people(self):
        chance = random.Random(5)
        for people, many in ((4, 60), (5, 60)):
            for row in varied_rows(people, many, 6, people):
                for _ in range(3):
                    one, other = chance.choices(range(people), k=2)
                    watched = chance.choice([None, (), chance.choices(range(people), k=4), range(1, people)])
                    self.check_none(row, one, other, watched if watched is None else list(watched))
        for many in (None, 0, 1):
            self.assertGreater(self.found.count(many), 15, many)

    def test_two_pairs_are_needed(self):
        frees = [Free(0), Move(1, 0)]
        for people in (4, 5, 6):
            self.assertEqual(self.check(Row(people, frees), 0, 1, None), ((0, 2), (1, 3)))
        self.assertEqual(self.check(Row(5, frees), 0, 1, [4, 3]), ((0, 3), (1, 4)))
        self.assertEqual(self.check(Row(5, [Free(3), Free(4)]), 4, 3, None), ((0, 3), (1, 4)))
        self.check_none(Row(5, frees), 0, 1, [4, 0])

    def test_the_examples(self):
        row = Row(4, [Join(0, 1), Free(0), Free(1)])
        self.assertEqual((matters(row, 0, 1), matters(row, 0, 2), matters(row, 2, 3)), (None, ((0, 3),), ()))

    def test_kinds_of_the_results(self):
        found = matters(Row(4, [Free(0), Move(1, 0)]), 0, 1)
        self.assertIs(type(found), tuple)
        self.assertEqual([type(pair) for pair in found], [tuple, tuple])
        self.assertIs(type(matters(Row(2, []), 0, 1)), tuple)

    def test_the_same_person_twice(self):
        for row in (Row(1, []), Row(3, []), Row(4, [Free(0)]), Row(16, [])):
            for person in range(row.people):
                self.assertIsNone(matters(row, person, person))

    def test_watched_people(self):
        row = Row(4, [Swap(0, 3)])
        self.assertEqual(matters(row, 0, 1), ())
        self.assertEqual(matters(row, 0, 1, watched=[0, 1, 2, 3]), ())
        self.assertEqual(matters(row, 0, 1, watched=[1, 3]), ())
        self.assertEqual(matters(row, 0, 1, watched=(3, 1, 3, 1)), ())
        self.assertEqual(matters(row, 0, 1, watched=[1, 2]), ((0, 2),))
        self.assertEqual(matters(row, 0, 1, watched=[0, 2]), ((0, 2), (1, 3)))
        for watched in ([], (), [2], [3, 3]):
            self.assertIsNone(matters(row, 0, 1, watched=watched))

    def test_16_people(self):
        self.check(Row(16, []), 14, 15, None)
        self.check(Row(16, [Free(15)]), 14, 15, None)
        frees = [Free(person) for person in range(16) if person not in (12, 13)]
        self.assertEqual(matters(Row(16, frees), 15, 14), ((12, 14), (13, 15)))
        self.assertEqual(matters(Row(16, frees), 3, 4), ((3, 12), (4, 13)))
        self.assertEqual(matters(Row(16, frees), 13, 0), ((0, 12),))
        self.assertIsNone(matters(Row(16, frees + [Free(12)]), 3, 4))
        self.assertIsNone(matters(Row(16, [Join(3, 4)] + frees), 3, 4))
        for row in mixed_rows(16, 2, 20, 6) + varied_rows(16, 3, 60, 7):
            found = matters(row, 3, 9)
            if found is not None:
                self.assertTrue(self.changes(row, found, (3, 9), range(16)))

    def test_order_of_the_errors(self):
        row = Row(3, [])
        self.assertEqual(fault(matters, row, 3, -1, watched=[9]), ("NoPerson", 3))
        self.assertEqual(fault(matters, row, -1, -1), ("NoPerson", -1))
        self.assertEqual(fault(matters, row, 0, 5, watched=[9]), ("NoPerson", 5))
        self.assertEqual(fault(matters, row, 0, 0, watched=[1, 9, -1]), ("NoPerson", 9))
        self.assertEqual(fault(matters, row, 0, 1, watched=(-2,)), ("NoPerson", -2))
