"""Points [9] and [10]: rows after each other, rows again and again, and what they forget."""

import itertools
import unittest

from glueroom.divisions import Division, alone
from glueroom.pictures import Picture, picture, seen
from glueroom.powers import cycle, far, forgets, glued, power
from glueroom.rows import Free, Join, Move, Row, Swap, run
from tests.helpers import (
    all_starts, fault, mixed_rows, parts, short_rows, told_by_steps, varied_rows,
)

MOST = 10 ** 30


def after(first, second):
    """Return the parts of the picture that two pictures make, by connecting sets of ends and starts."""
    blocks = [({("middle", end) for end in found} | {("start", start) for start in starts})
              for found, starts in list(first[0]) + [((), group) for group in first[1]]]
    blocks += [({("end", end) for end in found} | {("middle", start) for start in starts})
               for found, starts in list(second[0]) + [((), group) for group in second[1]]]
    whole = []
    while blocks:
        block = blocks.pop()
        touched = [other for other in blocks if other & block]
        if touched:
            blocks = [other for other in blocks if other not in touched] + [block.union(*touched)]
        else:
            whole.append(block)
    pairs = [tuple(tuple(sorted(at for kind, at in block if kind == wanted)) for wanted in ("end", "start"))
             for block in whole]
    classes = tuple(sorted(pair for pair in pairs if pair[0]))
    return (classes, tuple(sorted(pair[1] for pair in pairs if not pair[0] and pair[1])))


def untouched(people):
    return (tuple(((person,), (person,)) for person in range(people)), ())


def first_powers(row):
    """Return the parts of the pictures of all powers up to the first that comes again, and where it was."""
    once = parts(picture(row))
    found = []
    shown = untouched(row.people)
    while shown not in found:
        found.append(shown)
        shown = after(shown, once)
    return found, found.index(shown)


def wanted_power(row, rounds):
    found, tail = first_powers(row)
    if rounds < len(found):
        return found[rounds]
    return found[tail + (rounds - tail) % (len(found) - tail)]


def rings(people, *lengths):
    """Return a row that turns the people in rings of these lengths, the others stay."""
    commands = []
    low = 0
    for length in lengths:
        commands += [Swap(one, one + 1) for one in range(low, low + length - 1)]
        low += length
    return Row(people, commands)


class TestGlued(unittest.TestCase):
    def test_against_the_joined_row(self):
        for people in (1, 2, 3, 5, 16):
            rows = mixed_rows(people, 14, 30, people) + varied_rows(people, 14, 30, people)
            for first, second in itertools.product(rows, rows[::3]):
                joined = Row(people, first.commands + second.commands)
                self.assertEqual(glued(first, second), picture(joined))

    def test_all_short_rows_of_two_people(self):
        rows = short_rows(2, 1)
        for first, second in itertools.product(rows, repeat=2):
            self.assertEqual(glued(first, second), picture(Row(2, first.commands + second.commands)))

    def test_60_commands_together(self):
        commands = [Swap(0, 1), Free(2), Join(3, 2), Move(1, 4), Swap(4, 0), Free(1)] * 10
        wanted = picture(Row(5, commands))
        for at in (0, 1, 30, 59, 60):
            self.assertEqual(glued(Row(5, commands[:at]), Row(5, commands[at:])), wanted)

    def test_two_rows_of_60_commands(self):
        rows = [row for row in mixed_rows(16, 100, 60, 1) + varied_rows(16, 100, 60, 2) if len(row.commands) > 50]
        rows = [Row(16, (row.commands * 2)[:60]) for row in rows[:12]] + [rings(16, 4, 5, 7)]
        for first, second in itertools.product(rows, repeat=2):
            self.assertEqual(parts(glued(first, second)), after(parts(picture(first)), parts(picture(second))))
        turn = Row(16, [Swap(one, one + 1) for one in range(15)] * 4)
        back = Row(16, [Swap(one, one + 1) for one in range(14, -1, -1)] * 4)
        self.assertEqual(parts(glued(turn, back)), untouched(16))
        self.assertEqual(parts(glued(turn, turn)), wanted_power(rings(16, 16), 8))

    def test_the_order_counts(self):
        shown = glued(Row(3, [Free(0)]), Row(3, [Join(0, 1)]))
        self.assertEqual(parts(shown), ((((0, 1), (1,)), ((2,), (2,))), ((0,),)))
        shown = glued(Row(3, [Join(0, 1)]), Row(3, [Free(0)]))
        self.assertEqual(parts(shown), ((((0,), ()), ((1,), (0, 1)), ((2,), (2,))), ()))

    def test_the_result_is_a_picture(self):
        self.assertEqual(glued(Row(1, []), Row(1, [])), Picture([([0], [0])], []))

    def test_other_numbers_of_people(self):
        self.assertEqual(fault(glued, Row(2, []), Row(3, [])), ("OtherCount",))
        self.assertEqual(fault(glued, Row(3, []), Row(2, [])), ("OtherCount",))


class TestPower(unittest.TestCase):
    def test_few_rounds_against_the_longer_row(self):
        for people in (1, 2, 3, 5, 16):
            for row in mixed_rows(people, 10, 12, people) + varied_rows(people, 10, 12, people):
                for rounds in range(6):
                    self.assertEqual(power(row, rounds), picture(Row(people, row.commands * rounds)))

    def test_no_rounds(self):
        for people in range(1, 17):
            for commands in ([], [Free(0)], [Free(0), Move(people - 1, 0)]):
                self.assertEqual(parts(power(Row(people, commands), 0)), untouched(people))

    def test_one_and_two_rounds(self):
        for row in mixed_rows(16, 20, 60, 3) + varied_rows(16, 20, 60, 4):
            self.assertEqual(power(row, 1), picture(row))
            self.assertEqual(power(row, 2), glued(row, row))

    def test_more_rounds(self):
        rows = mixed_rows(4, 20, 10, 5) + varied_rows(6, 20, 10, 6) + varied_rows(16, 12, 60, 7)
        for row in rows:
            for rounds in (3, 4, 7, 8, 31, 32, 1000, 10 ** 9 + 7, MOST - 1, MOST):
                self.assertEqual(parts(power(row, rounds)), wanted_power(row, rounds))

    def test_most_rounds_of_rings(self):
        for lengths in ((4, 5, 7), (16,), (3, 13), (2, 3, 11), (2, 3, 5)):
            row = rings(16, *lengths)
            for rounds in (MOST, MOST - 1, 141, 139):
                self.assertEqual(parts(power(row, rounds)), wanted_power(row, rounds))

    def test_the_example(self):
        shown = power(Row(3, [Free(0), Move(1, 0)]), MOST)
        self.assertEqual(parts(shown), ((((0, 1), ()), ((2,), (2,))), ((0,), (1,))))

    def test_wrong_numbers_of_rounds(self):
        for rounds in (-1, -MOST, MOST + 1, MOST * 2):
            self.assertEqual(fault(power, Row(2, [Free(0)]), rounds), ("BadCount", "rounds", rounds))


class TestFar(unittest.TestCase):
    def test_against_run(self):
        rows = short_rows(2, 2)[::5] + mixed_rows(4, 12, 8, 8) + varied_rows(5, 12, 8, 9)
        for row in rows:
            for start in all_starts(row.people)[::4]:
                for rounds in (0, 1, 2, 3, 5, 64, 999, 1000):
                    self.assertEqual(far(row, start, rounds), run(row, start, rounds=rounds))

    def test_against_run_for_16_people(self):
        starts = [alone(16), Division(16, [range(16)]), Division(16, [[0, 5, 9], [15, 2], [7, 8]])]
        for row in varied_rows(16, 12, 60, 10) + [rings(16, 4, 5, 7)]:
            for start in starts:
                for rounds in (0, 1, 2, 7, 100):
                    self.assertEqual(far(row, start, rounds), run(row, start, rounds=rounds))

    def test_rounds_that_run_does_not_take(self):
        for row in varied_rows(5, 20, 8, 11) + [rings(5, 2, 3), rings(5, 4)]:
            for start in all_starts(5)[::7]:
                # The ends repeat at the latest after 52 rounds, as there are 52 divisions.
                ends = [run(row, start, rounds=rounds) for rounds in range(52)]
                ring = next(ring for ring in range(1, 53) if run(row, ends[51], rounds=ring) == ends[51])
                for rounds in (1001, 10 ** 9, MOST - 1, MOST):
                    self.assertEqual(far(row, start, rounds), run(row, ends[51], rounds=(rounds - 51) % ring))

    def test_the_example(self):
        row = Row(3, [Swap(0, 1), Swap(1, 2)])
        self.assertEqual(far(row, Division(3, [[0, 1]]), MOST).groups, ((0, 2), (1,)))

    def test_order_of_the_errors(self):
        for rounds in (-1, 0, MOST + 1):
            self.assertEqual(fault(far, Row(2, []), alone(3), rounds), ("OtherCount",))
        for rounds in (-1, MOST + 1):
            self.assertEqual(fault(far, Row(2, []), alone(2), rounds), ("BadCount", "rounds", rounds))


class TestCycle(unittest.TestCase):
    def check(self, row):
        """Check the tail and the ring against what is seen of the powers, and return them."""
        tail, ring = cycle(row)
        watched = range(row.people)
        found = [told_by_steps(power(row, rounds), watched) for rounds in range(tail + 2 * ring + 5)]
        for rounds in range(tail, tail + ring + 5):
            self.assertEqual(found[rounds], found[rounds + ring])
        # A smaller tail or ring would make two of these equal.
        self.assertEqual(len(set(found[:tail + ring])), tail + ring)
        return (tail, ring)

    def test_the_examples(self):
        self.assertEqual(cycle(Row(2, [Swap(0, 1)])), (0, 1))
        self.assertEqual(cycle(Row(3, [Swap(0, 1)])), (0, 2))
        self.assertEqual(cycle(Row(3, [Join(0, 1)])), (1, 1))

    def test_one_and_two_people(self):
        for row in short_rows(1, 2):
            self.assertEqual(self.check(row), (0, 1))
        for row in short_rows(2, 2):
            kept = seen(row) == seen(Row(2, []))
            self.assertEqual(self.check(row), (0, 1) if kept else (1, 1))

    def test_few_people(self):
        for row in short_rows(3, 1) + mixed_rows(4, 60, 6, 12) + varied_rows(5, 80, 6, 13) + varied_rows(7, 60, 9, 14):
            self.check(row)

    def test_16_people(self):
        for row in varied_rows(16, 30, 60, 15):
            self.check(row)

    def test_no_commands(self):
        for people in (1, 2, 3, 16):
            self.assertEqual(cycle(Row(people, [])), (0, 1))

    def test_rings(self):
        for people, lengths, ring in (
            (16, (4, 5, 7), 140), (16, (16,), 16), (16, (3, 13), 39), (16, (2, 3, 11), 66), (16, (2, 3, 5), 30),
            (16, (8, 8), 8), (16, (2,) * 8, 2), (15, (3, 5, 7), 105), (3, (3,), 3), (4, (2, 2), 2), (5, (2, 3), 6),
        ):
            self.assertEqual(cycle(rings(people, *lengths)), (0, ring))
        self.check(rings(16, 4, 5, 7))

    def test_two_rooms_that_change_places_look_alike(self):
        self.assertEqual(self.check(Row(4, [Join(0, 1), Join(2, 3), Swap(0, 2), Swap(1, 3)])), (1, 1))

    def test_a_tail_before_a_ring(self):
        turn = [Swap(one, one + 1) for one in range(2)]
        line = [Move(6, 5), Move(5, 4), Move(4, 3)]
        self.assertEqual(self.check(Row(7, turn + line)), (3, 3))
        self.assertEqual(self.check(Row(7, turn + [Free(3)])), (1, 3))

    def test_the_result_is_a_tuple(self):
        self.assertIs(type(cycle(Row(3, []))), tuple)


class TestForgets(unittest.TestCase):
    def check(self, row):
        """Check the number against the open classes of the powers, and return it."""
        found, _ = first_powers(row)
        few = [rounds for rounds, shown in enumerate(found) if sum(bool(pair[1]) for pair in shown[0]) <= 1]
        self.assertEqual(forgets(row), few[0] if few else None)
        return forgets(row)

    def test_one_person(self):
        for row in short_rows(1, 2):
            self.assertEqual(self.check(row), 0)
        self.assertEqual(forgets(Row(1, [Free(0)] * 60)), 0)

    def test_the_examples(self):
        self.assertEqual(forgets(Row(3, [Free(0), Move(1, 0)])), 1)
        self.assertIsNone(forgets(Row(3, [Join(0, 1)])))

    def test_two_people(self):
        self.assertEqual(forgets(Row(2, [Free(0)])), 1)
        self.assertEqual(forgets(Row(2, [Join(0, 1)])), 1)
        self.assertIsNone(forgets(Row(2, [])))
        self.assertIsNone(forgets(Row(2, [Swap(0, 1)])))
        for row in short_rows(2, 2):
            self.check(row)

    def test_many_rows(self):
        rows = mixed_rows(4, 60, 6, 16) + varied_rows(5, 100, 6, 17) + varied_rows(16, 25, 60, 18)
        found = [self.check(row) for row in rows]
        for wanted in (None, 1, 2, 3):
            self.assertIn(wanted, found)

    def test_everybody_is_freed_after_several_rounds(self):
        for people in (2, 3, 5, 16):
            turn = [Swap(one, one + 1) for one in range(people - 1)]
            # Each round takes one more person away from the others.
            self.assertEqual(self.check(Row(people, turn + [Free(0)])), people - 1)
            self.assertEqual(self.check(Row(people, [Free(0)] + turn)), people - 1)

    def test_everybody_is_joined_after_several_rounds(self):
        for people in (2, 3, 5, 16):
            turn = [Swap(one, one + 1) for one in range(people - 1)]
            self.assertEqual(self.check(Row(people, [Join(0, people - 1)] + turn)), people - 1)

    def test_the_start_is_never_forgotten(self):
        self.assertIsNone(forgets(Row(16, [])))
        self.assertIsNone(forgets(rings(16, 4, 5, 7)))
        self.assertIsNone(forgets(Row(16, [Free(person) for person in range(14)])))
        self.assertEqual(forgets(Row(16, [Free(person) for person in range(15)])), 1)

    def test_the_start_has_no_influence_from_then_on(self):
        for row in varied_rows(4, 40, 5, 19):
            rounds = forgets(row)
            if rounds is not None:
                ends = [run(row, start, rounds=rounds).groups for start in all_starts(4)]
                self.assertEqual(len(set(ends)), 1)
