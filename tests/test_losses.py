"""Points [14] to [16]: what is known of a start, what is lost, and rows that are shorter or lead back."""

import itertools
import random
import unittest

from glueroom.divisions import Division, alone, together
from glueroom.losses import Known, Lost, count_starts, known, normal, undo
from glueroom.pictures import Picture, same, seen
from glueroom.powers import glued
from glueroom.rows import Free, Join, Move, Row, Swap, run
from tests.helpers import all_starts, fault, mixed_rows, short_rows, start_with, varied_rows


def some_rows(people):
    return mixed_rows(people, 25, 7, people) + varied_rows(people, 60, 7, people + 20)


def rows_that_join_little(people, many, seed):
    """Return rows that exchange people and then join and free two of them at most."""
    chance = random.Random(seed)
    rows = []
    for _ in range(many):
        swaps = [Swap(*chance.choices(range(people), k=2)) for _ in range(4)]
        rest = [chance.choice([Join, Move])(*chance.choices(range(people), k=2)) for _ in range(chance.randint(0, 2))]
        frees = [Free(chance.randrange(people)) for _ in range(chance.randint(0, 2))]
        rows.append(Row(people, swaps + chance.sample(rest + frees, len(rest + frees))))
    return rows


class TestKnownClass(unittest.TestCase):
    def test_any_order_equals_the_sorted_one(self):
        pairs = ((0, 1), (0, 3), (1, 2))
        for order in itertools.permutations([[1, 0], (3, 0), [1, 2]]):
            for given in (list(order), order):
                self.assertEqual(Known(given, ()).together, pairs)
                self.assertEqual(Known((), given).apart, pairs)
                self.assertEqual(Known(given, [[2, 1]]), Known(pairs, ((1, 2),)))

    def test_kinds_of_the_fields(self):
        found = Known([[1, 0]], [[3, 2], (2, 0)])
        self.assertEqual((found.together, found.apart), (((0, 1),), ((0, 2), (2, 3))))
        self.assertEqual((Known([], []).together, Known([], []).apart), ((), ()))

    def test_equality(self):
        self.assertTrue(Known([(0, 1)], [(0, 2)]) == Known([[1, 0]], ((2, 0),)))
        self.assertFalse(Known([(0, 1)], [(0, 2)]) != Known([[1, 0]], ((2, 0),)))
        self.assertTrue(Known([(0, 1)], []) != Known([], [(0, 1)]))
        self.assertTrue(Known([(0, 1)], []) != Known([(0, 2)], []))
        self.assertTrue(Known([], [(0, 1)]) != Known([], []))


class TestKnown(unittest.TestCase):
    def setUp(self):
        self.found = {"none": 0, "together": 0, "apart": 0, "open": 0}

    def check(self, row):
        """Check what is known for every end against all starts that have it."""
        starts = all_starts(row.people)
        ends = [run(row, start) for start in starts]
        pairs = list(itertools.combinations(range(row.people), 2))
        for end in starts:
            fitting = [start for start, reached in zip(starts, ends) if reached == end]
            if not fitting:
                self.assertEqual(fault(known, row, end), ("NoStart",))
                self.found["none"] += 1
                continue
            shared = {pair: [together(start, *pair) for start in fitting] for pair in pairs}
            found = known(row, end)
            self.assertEqual(found.together, tuple(pair for pair in pairs if all(shared[pair])))
            self.assertEqual(found.apart, tuple(pair for pair in pairs if not any(shared[pair])))
            self.found["together"] += len(found.together)
            self.found["apart"] += len(found.apart)
            self.found["open"] += len(pairs) - len(found.together) - len(found.apart)

    def test_short_rows(self):
        for row in short_rows(1, 2) + short_rows(2, 2) + short_rows(3, 1):
            self.check(row)

    def test_against_every_division(self):
        for people in (3, 4, 5):
            for row in some_rows(people) + rows_that_join_little(people, 25, people):
                self.check(row)
        for kind, many in self.found.items():
            self.assertGreater(many, 500, kind)

    def test_the_examples(self):
        found = known(Row(3, [Swap(0, 1)]), Division(3, [[0, 2]]))
        self.assertEqual((found.together, found.apart), (((1, 2),), ((0, 1), (0, 2))))
        self.assertEqual(fault(known, Row(3, [Join(0, 1)]), alone(3)), ("NoStart",))

    def test_a_dead_person_does_not_hide_who_were_together(self):
        found = known(Row(3, [Free(2)]), Division(3, [[0, 1]]))
        self.assertEqual(found, Known([(0, 1)], []))

    def test_two_dead_people_of_one_block_hide_who_were_together(self):
        row = Row(4, [Join(2, 3), Free(2), Free(3)])
        self.assertEqual(known(row, Division(4, [[0, 1]])), Known([], []))
        self.assertEqual(known(row, alone(4)), Known([], [(0, 1)]))
        row = Row(4, [Free(2), Free(3)])
        self.assertEqual(known(row, Division(4, [[0, 1]])), Known([(0, 1)], []))

    def test_joined_people_hide_who_were_together(self):
        row = Row(4, [Join(2, 3)])
        self.assertEqual(known(row, Division(4, [[0, 1], [2, 3]])), Known([(0, 1)], [(0, 2), (0, 3), (1, 2), (1, 3)]))
        self.assertEqual(known(row, Division(4, [[0, 2, 3]])), Known([], [(0, 1), (1, 2), (1, 3)]))
        self.assertEqual(known(row, Division(4, [[0, 1, 2, 3]])), Known([], []))

    def test_16_people(self):
        end = Division(16, [[0, 5, 15], [1, 2]])
        turned = {0: 15, 15: 0}
        pairs = list(itertools.combinations(range(16), 2))
        inside = [(0, 5), (0, 15), (5, 15), (1, 2)]
        shared = [tuple(sorted(turned.get(person, person) for person in pair)) for pair in inside]
        self.assertEqual(
            known(Row(16, [Swap(0, 15)]), end), Known(shared, [pair for pair in pairs if pair not in shared]))
        self.assertEqual(known(Row(16, [Free(person) for person in range(16)]), alone(16)), Known([], []))
        self.assertEqual(
            known(Row(16, [Free(person) for person in range(3, 16)]), Division(16, [[0, 2]])),
            Known([(0, 2)], [(0, 1), (1, 2)]))
        everybody = Division(16, [range(16)])
        self.assertEqual(known(Row(16, []), everybody), Known(pairs, []))
        self.assertEqual(fault(known, Row(16, [Free(7)]), everybody), ("NoStart",))

    def test_other_count_before_no_start(self):
        self.assertEqual(fault(known, Row(3, [Join(0, 1)]), alone(2)), ("OtherCount",))
        self.assertEqual(fault(known, Row(2, [Join(0, 1)]), alone(3)), ("OtherCount",))
        self.assertEqual(fault(known, Row(2, [Join(0, 1)]), alone(2)), ("NoStart",))

    def test_kinds_of_the_results(self):
        found = known(Row(3, [Swap(0, 1)]), Division(3, [[0, 2]]))
        for pairs in (found.together, found.apart):
            self.assertIs(type(pairs), tuple)
            self.assertEqual({type(pair) for pair in pairs}, {tuple})


class TestUndo(unittest.TestCase):
    def check(self, row):
        """Check the result against every start, and return it."""
        ends = {start.groups: run(row, start).groups for start in all_starts(row.people)}
        nobody = ends[alone(row.people).groups]
        lost = [
            pair for pair in itertools.combinations(range(row.people), 2)
            if ends[start_with(row.people, [pair]).groups] == nobody
        ]
        found = undo(row)
        if lost:
            self.assertIs(type(found), Lost)
            self.assertEqual((found.one, found.other), lost[0])
            self.assertEqual(found, Lost(*lost[0]))
            self.assertLess(len(set(ends.values())), len(ends))
        else:
            self.assertIs(type(found), Row)
            self.assertLessEqual(len(found.commands), 60)
            for start in all_starts(row.people):
                self.assertEqual(run(found, run(row, start)), start)
        return found

    def test_short_rows(self):
        for row in short_rows(1, 3) + short_rows(2, 2) + short_rows(3, 2) + short_rows(4, 1):
            self.check(row)

    def test_rows_of_up_to_five_people(self):
        chance = random.Random(1)
        for people in (3, 4, 5):
            found = [self.check(row) for row in some_rows(people) + rows_that_join_little(people, 30, people)]
            for _ in range(20):
                swaps = [Swap(*chance.choices(range(people), k=2)) for _ in range(chance.randint(0, 9))]
                found.append(self.check(Row(people, swaps)))
            self.assertGreater(sum(isinstance(back, Row) for back in found), 25)
            self.assertGreater(sum(isinstance(back, Lost) for back in found), 25)

    def test_one_person(self):
        for commands in ([], [Free(0)], [Free(0), Join(0, 0)] * 30):
            self.assertIs(type(self.check(Row(1, commands))), Row)

    def test_16_people_and_60_commands(self):
        chance = random.Random(2)
        starts = [alone(16), Division(16, [range(16)]), Division(16, [[0, 5, 9], [15, 2], [7, 8]])]
        nothing = Picture([([person], [person]) for person in range(16)], [])
        for _ in range(30):
            swaps = [Swap(*chance.choices(range(16), k=2)) for _ in range(60)]
            row = Row(16, swaps)
            back = undo(row)
            self.assertIs(type(back), Row)
            self.assertEqual(glued(row, back), nothing)
            for start in starts:
                self.assertEqual(run(back, run(row, start)), start)
            at = chance.randrange(60)
            self.assertIs(type(undo(Row(16, swaps[:at] + [Free(3)] + swaps[at + 1:]))), Lost)

    def test_the_smallest_pair(self):
        row = undo(Row(3, [Free(2)]))
        self.assertEqual((row.one, row.other), (0, 2))
        self.assertEqual(undo(Row(16, [Free(15)])), Lost(0, 15))
        self.assertEqual(undo(Row(16, [Join(15, 14)])), Lost(14, 15))
        self.assertEqual(undo(Row(16, [Free(0)])), Lost(0, 1))
        self.assertEqual(undo(Row(16, [Swap(3, 7), Move(3, 12)])), Lost(0, 7))
        self.assertEqual(undo(Row(16, [Join(5, 9), Join(4, 6)])), Lost(4, 6))

    def test_the_example(self):
        row = Row(3, [Swap(0, 1), Swap(1, 2)])
        self.assertEqual(run(undo(row), run(row, Division(3, [[0, 2]]))).groups, ((0, 2), (1,)))

    def test_lost_is_an_object_with_fields(self):
        self.assertEqual((Lost(3, 1).one, Lost(other=1, one=3).other), (3, 1))
        self.assertTrue(Lost(0, 1) == Lost(0, 1))
        self.assertTrue(Lost(0, 1) != Lost(1, 0))
        self.assertTrue(Lost(0, 1) != Lost(0, 2))
        self.assertTrue(Lost(0, 1) != Lost(2, 1))


class TestNormal(unittest.TestCase):
    def check(self, row):
        short = normal(row)
        self.assertIs(type(short), Row)
        self.assertEqual(short.people, row.people)
        self.assertLessEqual(len(short.commands), 3 * row.people)
        self.assertIs(same(short, row), True)
        return short

    def test_short_rows(self):
        for row in short_rows(1, 3) + short_rows(2, 3) + short_rows(3, 2) + short_rows(4, 1):
            self.check(row)

    def test_1_to_16_people(self):
        for people in range(1, 17):
            for row in mixed_rows(people, 15, 60, people) + varied_rows(people, 30, 60, people):
                self.check(row)
            if people > 1:
                for row in rows_that_join_little(people, 30, people) + varied_rows(people, 30, 10, people):
                    self.check(row)

    def test_ends_from_every_start(self):
        for row in varied_rows(4, 60, 8, 3) + rows_that_join_little(5, 40, 4):
            short = normal(row)
            for start in all_starts(row.people):
                self.assertEqual(run(short, start), run(row, start))

    def test_long_rows_of_16_people(self):
        turn = [Swap(one, one + 1) for one in range(15)] * 4
        for commands in (turn, turn[:50] + [Join(3, 8), Free(8), Free(3), Move(4, 15), Free(1), Move(9, 1)]):
            short = self.check(Row(16, commands))
            start = Division(16, [[0, 5, 9], [15, 2], [7, 8]])
            self.assertEqual(run(short, start), run(Row(16, commands), start))
        self.check(Row(16, [Join(one, 15) for one in range(15)]))

    def test_equal_rows_have_equal_results(self):
        for row in varied_rows(5, 20, 10, 5):
            self.assertEqual(normal(row), normal(Row(5, list(row.commands))))
            self.assertEqual(seen(normal(row)), seen(row))


class TestCountStarts(unittest.TestCase):
    def check(self, row):
        starts = all_starts(row.people)
        ends = [run(row, start).groups for start in starts]
        for end in starts:
            self.assertEqual(count_starts(row, end), ends.count(end.groups))

    def test_short_rows(self):
        for row in short_rows(1, 2) + short_rows(2, 2) + short_rows(3, 1):
            self.check(row)

    def test_up_to_five_people(self):
        for people in (3, 4, 5):
            for row in some_rows(people)[::4] + rows_that_join_little(people, 6, people):
                self.check(row)

    def test_six_people(self):
        for row in (Row(6, [Join(0, 5), Free(2)]), Row(6, [Swap(1, 2), Free(0), Free(5), Move(3, 1)])):
            self.check(row)

    def test_the_example(self):
        self.assertEqual(count_starts(Row(3, [Free(2)]), alone(3)), 3)

    def test_seven_and_eight_people(self):
        for people, many in ((7, 877), (8, 4140)):
            self.assertEqual(count_starts(Row(people, [Free(person) for person in range(people)]), alone(people)), many)
            self.assertEqual(count_starts(Row(people, [Swap(0, 6)]), Division(people, [[0, 5, 2]])), 1)
            self.assertEqual(count_starts(Row(people, [Join(0, 6)]), alone(people)), 0)
        row = Row(8, [Join(1, 4), Swap(2, 7), Free(5), Move(6, 3)] * 15)
        end = run(row, Division(8, [[0, 7], [2, 5]]))
        wanted = sum(run(row, start) == end for start in all_starts(8))
        self.assertEqual(count_starts(row, end), wanted)

    def test_more_people(self):
        for people in (9, 10, 16):
            self.assertEqual(fault(count_starts, Row(people, []), alone(people)), ("BadCount", "people", people))

    def test_other_count_before_bad_count(self):
        for people, others in ((9, 8), (8, 9), (9, 10), (2, 3)):
            self.assertEqual(fault(count_starts, Row(people, []), alone(others)), ("OtherCount",))
