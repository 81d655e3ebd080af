"""Points [6] and [7]: pictures, what is seen of them, and rows that are the same."""

import itertools
import unittest

from glueroom.divisions import Division, alone
from glueroom.pictures import Picture, picture, same, seen
from glueroom.rows import Free, Join, Move, Row, Swap, run
from tests.helpers import (
    all_starts, all_watched, fault, mixed_rows, ordered, parts, short_rows, told_by_steps, view,
)


def glued_ends(shown, start):
    """Return the groups that a picture promises for a start."""
    blocks = [(set(found), set(starts)) for found, starts in shown.classes]
    blocks += [(set(), set(group)) for group in shown.dead]
    for group in start.groups:
        touched = [block for block in blocks if block[1] & set(group)]
        whole = (set().union(*[found for found, _ in touched]), set().union(*[starts for _, starts in touched]))
        blocks = [block for block in blocks if block not in touched] + [whole]
    return ordered([found for found, _ in blocks])


class TestPictureClass(unittest.TestCase):
    def test_any_order_equals_the_sorted_one(self):
        classes = (((0, 3), ()), ((1,), (0, 2)), ((2,), (1,)))
        dead = ((3, 5), (4,))
        for order in itertools.permutations([[[3, 0], []], ([1], (2, 0)), [(2,), [1]]]):
            for groups in ([[5, 3], [4]], ((4,), (3, 5))):
                self.assertEqual(parts(Picture(order, groups)), (classes, dead))
                self.assertEqual(Picture(tuple(order), groups), Picture(classes, dead))

    def test_kinds_of_the_fields(self):
        shown = Picture([[[1, 0], [2]]], [[0, 1]])
        self.assertEqual(parts(shown), ((((0, 1), (2,)),), ((0, 1),)))

    def test_classes_are_sorted_by_the_smallest_end(self):
        shown = Picture([((2,), (0,)), ((9, 1), (2,)), ((10, 0), (1,))], [])
        self.assertEqual(shown.classes, (((0, 10), (1,)), ((1, 9), (2,)), ((2,), (0,))))

    def test_dead_is_sorted_by_the_smallest_person(self):
        self.assertEqual(Picture([], [[2], [9, 1], [10, 0]]).dead, ((0, 10), (1, 9), (2,)))

    def test_nothing(self):
        self.assertEqual(parts(Picture([], [])), ((), ()))
        self.assertEqual(Picture((), ()), Picture([], []))

    def test_pictures_that_no_row_has(self):
        self.assertEqual(parts(Picture([([], [1]), ([], [])], [[], [-4, -5]])), ((((), ()), ((), (1,))), ((), (-5, -4))))
        self.assertEqual(parts(Picture([([7], [7]), ([7], [2])], [[7], [7]])), ((((7,), (2,)), ((7,), (7,))), ((7,), (7,))))

    def test_equality(self):
        self.assertTrue(Picture([([0], [1])], [[0]]) == Picture([((0,), (1,))], ((0,),)))
        self.assertTrue(Picture([([0], [1])], [[0]]) != Picture([([0], [])], [[0]]))
        self.assertTrue(Picture([([0], [1])], [[0]]) != Picture([([1], [1])], [[0]]))
        self.assertTrue(Picture([([0], [1])], [[0]]) != Picture([([0], [1])], []))


class TestPicture(unittest.TestCase):
    def test_the_example(self):
        shown = picture(Row(3, [Join(0, 1), Free(0), Free(1)]))
        self.assertEqual(parts(shown), ((((0,), ()), ((1,), ()), ((2,), (2,))), ((0, 1),)))

    def test_no_commands(self):
        shown = picture(Row(3, []))
        self.assertEqual(parts(shown), ((((0,), (0,)), ((1,), (1,)), ((2,), (2,))), ()))

    def test_free_of_a_person_who_is_alone(self):
        self.assertEqual(parts(picture(Row(2, [Free(0)]))), ((((0,), ()), ((1,), (1,))), ((0,),)))
        self.assertEqual(parts(picture(Row(1, [Free(0), Free(0)]))), ((((0,), ()),), ((0,),)))

    def test_each_command(self):
        self.assertEqual(parts(picture(Row(2, [Join(0, 1)]))), ((((0, 1), (0, 1)),), ()))
        self.assertEqual(parts(picture(Row(2, [Swap(0, 1)]))), ((((0,), (1,)), ((1,), (0,))), ()))
        self.assertEqual(parts(picture(Row(2, [Move(0, 1)]))), ((((0, 1), (1,)),), ((0,),)))

    def test_joined_new_rooms(self):
        shown = picture(Row(4, [Free(0), Free(1), Join(0, 1), Join(2, 3), Free(2)]))
        self.assertEqual(parts(shown), ((((0, 1), ()), ((2,), ()), ((3,), (2, 3))), ((0,), (1,))))

    def test_a_new_room_that_is_left_does_not_count(self):
        self.assertEqual(parts(picture(Row(2, [Free(0), Move(0, 1)]))), ((((0, 1), (1,)),), ((0,),)))

    def test_the_row_stays_as_it_is(self):
        row = Row(2, [Free(0), Move(0, 1)])
        picture(row)
        self.assertEqual(row, Row(2, [Free(0), Move(0, 1)]))

    def test_every_person_begins_in_one_block_and_ends_in_one_class(self):
        for row in mixed_rows(16, 50, 60, 3):
            shown = picture(row)
            begins = [person for _, starts in shown.classes for person in starts]
            begins += [person for group in shown.dead for person in group]
            self.assertEqual(sorted(begins), list(range(16)))
            self.assertEqual(sorted(person for found, _ in shown.classes for person in found), list(range(16)))

    def test_ends_from_every_start_for_few_people(self):
        rows = short_rows(1, 3) + short_rows(2, 3) + short_rows(3, 2) + short_rows(4, 1)
        for people in (3, 4, 5):
            rows += mixed_rows(people, 60, 14, people)
        for row in rows:
            shown = picture(row)
            for start in all_starts(row.people):
                self.assertEqual(glued_ends(shown, start), run(row, start).groups)

    def test_ends_for_16_people_and_60_commands(self):
        starts = [alone(16), Division(16, [range(16)]), Division(16, [[0, 5, 9], [15, 2], [7, 8]])]
        rows = [row for row in mixed_rows(16, 100, 60, 4) if len(row.commands) >= 50]
        rows.append(Row(16, [Swap(0, 15), Free(3), Move(2, 9), Join(4, 5)] * 15))
        for row in rows:
            for start in starts:
                self.assertEqual(glued_ends(picture(row), start), run(row, start).groups)


class TestSeen(unittest.TestCase):
    def test_the_example(self):
        shown = seen(Row(3, [Join(0, 1), Free(0), Free(1)]))
        self.assertEqual(parts(shown), ((((0,), ()), ((1,), ()), ((2,), ())), ()))

    def test_no_open_class(self):
        row = Row(2, [Free(0), Free(1)])
        self.assertEqual(parts(picture(row)), ((((0,), ()), ((1,), ())), ((0,), (1,))))
        self.assertEqual(parts(seen(row)), ((((0,), ()), ((1,), ())), ()))

    def test_one_open_class(self):
        row = Row(3, [Move(0, 1), Free(2)])
        self.assertEqual(parts(seen(row)), ((((0, 1), ()), ((2,), ())), ()))

    def test_two_open_classes_get_their_starts_in_order(self):
        self.assertEqual(parts(seen(Row(2, [Swap(0, 1)]))), ((((0,), (0,)), ((1,), (1,))), ()))
        crossed = Row(4, [Free(0), Join(1, 2), Swap(3, 1), Move(1, 3)])
        self.assertEqual(
            parts(picture(crossed)), ((((0,), ()), ((1, 2, 3), (1, 2))), ((0,), (3,))))
        crossed = Row(4, [Free(0), Join(1, 2), Swap(3, 1), Move(2, 1)])
        self.assertEqual(
            parts(picture(crossed)), ((((0,), ()), ((1, 2), (3,)), ((3,), (1, 2))), ((0,),)))
        self.assertEqual(
            parts(seen(crossed)), ((((0,), ()), ((1, 2), (1, 2)), ((3,), (3,))), ((0,),)))

    def test_two_open_classes_that_are_in_order_stay(self):
        row = Row(4, [Free(0), Join(2, 3)])
        self.assertEqual(seen(row), picture(row))
        self.assertEqual(parts(seen(row)), ((((0,), ()), ((1,), (1,)), ((2, 3), (2, 3))), ((0,),)))

    def test_three_open_classes_stay(self):
        row = Row(4, [Swap(0, 1), Free(3)])
        self.assertEqual(parts(seen(row)), ((((0,), (1,)), ((1,), (0,)), ((2,), (2,)), ((3,), ())), ((3,),)))
        self.assertEqual(seen(row), picture(row))

    def test_more_open_classes_stay(self):
        row = Row(16, [Swap(0, 15), Swap(3, 9)])
        self.assertEqual(seen(row), picture(row))

    def test_all_watched(self):
        for row in mixed_rows(4, 50, 10, 5):
            self.assertEqual(seen(row), seen(row, watched=None))
            self.assertEqual(seen(row), seen(row, watched=[0, 1, 2, 3]))

    def test_nobody_watched(self):
        for row in mixed_rows(4, 50, 10, 6):
            self.assertEqual(parts(seen(row, watched=[])), ((), ()))
            self.assertEqual(parts(seen(row, watched=())), ((), ()))

    def test_a_class_that_nobody_watches_becomes_a_dead_block(self):
        row = Row(4, [Join(0, 1)])
        self.assertEqual(parts(seen(row, watched=[2, 3])), ((((2,), (2,)), ((3,), (3,))), ((0, 1),)))

    def test_a_class_without_starts_that_nobody_watches_is_removed(self):
        row = Row(4, [Free(0)])
        self.assertEqual(
            parts(seen(row, watched=[1, 2, 3])), ((((1,), (1,)), ((2,), (2,)), ((3,), (3,))), ((0,),)))

    def test_classes_are_sorted_by_their_watched_ends(self):
        row = Row(5, [Move(0, 4)])
        self.assertEqual(
            parts(seen(row, watched=[1, 2, 4])), ((((1,), (1,)), ((2,), (2,)), ((4,), (4,))), ((0,), (3,))))
        self.assertEqual(parts(seen(row, watched=[4, 3])), ((((3,), (3,)), ((4,), (4,))), ((0,), (1,), (2,))))

    def test_starts_are_given_out_after_the_ends_are_removed(self):
        row = Row(4, [Move(0, 3), Swap(1, 2)])
        self.assertEqual(
            parts(picture(row)), ((((0, 3), (3,)), ((1,), (2,)), ((2,), (1,))), ((0,),)))
        self.assertEqual(parts(seen(row, watched=[1, 3])), ((((1,), (2,)), ((3,), (3,))), ((0,), (1,))))
        self.assertEqual(parts(seen(row, watched=[0, 2])), ((((0,), (1,)), ((2,), (3,))), ((0,), (2,))))

    def test_order_and_duplicates_of_the_watched_have_no_effect(self):
        for row in mixed_rows(4, 40, 8, 7):
            wanted = seen(row, watched=(1, 3))
            for watched in ((3, 1), [3, 1, 3], [1, 1, 3], (3, 3, 1, 1)):
                self.assertEqual(seen(row, watched=watched), wanted)

    def test_against_the_steps(self):
        for row in short_rows(3, 2) + mixed_rows(4, 80, 8, 8) + mixed_rows(5, 60, 8, 9):
            for watched in all_watched(row.people):
                self.assertEqual(parts(seen(row, watched=watched)), told_by_steps(picture(row), watched))

    def test_the_first_invalid_watched_person(self):
        row = Row(3, [])
        self.assertEqual(fault(seen, row, watched=[3]), ("NoPerson", 3))
        self.assertEqual(fault(seen, row, watched=(-1,)), ("NoPerson", -1))
        self.assertEqual(fault(seen, row, watched=[0, 9, 4, -1]), ("NoPerson", 9))
        self.assertEqual(fault(seen, row, watched=[2, -5, 9]), ("NoPerson", -5))


class TestSame(unittest.TestCase):
    def check_rows(self, people, rows):
        """Compare rows with what is seen from every start, for all sets of watched people."""
        starts = all_starts(people)
        ends = [[run(row, start).groups for start in starts] for row in rows]
        for watched in all_watched(people):
            views = [tuple(view(groups, watched) for groups in found) for found in ends]
            self.check_views(rows, views, watched)

    def check_views(self, rows, views, watched):
        shown = [parts(seen(row, watched=watched)) for row in rows]
        # One picture for each view and one view for each picture: so every pair of rows is right.
        self.assertEqual(len(set(zip(views, shown))), len(set(views)))
        self.assertEqual(len(set(zip(views, shown))), len(set(shown)))
        # Neighbours in this order are alike, and differ wherever a view begins.
        order = sorted(range(len(rows)), key=lambda at: views[at])
        for one, other in zip(order, order[1:]):
            wanted = views[one] == views[other]
            self.assertIs(same(rows[one], rows[other], watched=watched), wanted)
            self.assertIs(same(rows[other], rows[one], watched=watched), wanted)

    def test_one_person(self):
        self.check_rows(1, short_rows(1, 2))

    def test_two_people(self):
        self.check_rows(2, short_rows(2, 2))

    def test_three_people(self):
        self.check_rows(3, short_rows(3, 1) + mixed_rows(3, 300, 8, 10))

    def test_four_people(self):
        self.check_rows(4, short_rows(4, 1) + mixed_rows(4, 200, 8, 11))

    def test_five_people(self):
        self.check_rows(5, short_rows(5, 1) + mixed_rows(5, 100, 8, 12))

    def test_all_watched_unless_told_otherwise(self):
        rows = mixed_rows(3, 40, 6, 13)
        starts = all_starts(3)
        ends = [[run(row, start).groups for start in starts] for row in rows]
        for one, other in itertools.product(range(len(rows)), repeat=2):
            wanted = ends[one] == ends[other]
            self.assertIs(same(rows[one], rows[other]), wanted)
            self.assertIs(same(rows[one], rows[other], watched=None), wanted)

    def test_the_examples(self):
        self.assertIs(same(Row(2, [Swap(0, 1)]), Row(2, [])), True)
        self.assertIs(same(Row(3, [Swap(0, 1)]), Row(3, [])), False)

    def test_some_watched(self):
        self.assertIs(same(Row(3, [Free(0)]), Row(3, []), watched=[1, 2]), True)
        self.assertIs(same(Row(3, [Free(0)]), Row(3, []), watched=[0, 1]), False)
        self.assertIs(same(Row(3, [Free(0)]), Row(3, []), watched=[]), True)

    def test_dead_blocks_are_compared(self):
        row = Row(4, [Join(0, 1), Free(0), Free(1)])
        self.assertIs(same(row, Row(4, [Free(0), Free(1)])), False)

    def test_16_people(self):
        row = Row(16, [Swap(one, one + 1) for one in range(15)] * 4)
        turned = Row(16, [Swap(one, one + 1) for one in range(14, -1, -1)] * 4)
        self.assertIs(same(row, row), True)
        self.assertIs(same(row, turned), False)
        self.assertIs(same(row, turned, watched=[0, 1]), False)
        # The two people come from the same two rooms, the other way round.
        self.assertIs(same(row, turned, watched=[0, 8]), True)

    def test_other_numbers_of_people(self):
        self.assertEqual(fault(same, Row(2, []), Row(3, [])), ("OtherCount",))
        self.assertEqual(fault(same, Row(3, []), Row(2, []), watched=[]), ("OtherCount",))

    def test_other_count_before_no_person(self):
        self.assertEqual(fault(same, Row(2, []), Row(3, []), watched=[9]), ("OtherCount",))

    def test_the_first_invalid_watched_person(self):
        self.assertEqual(fault(same, Row(3, []), Row(3, []), watched=[0, 3, -1]), ("NoPerson", 3))
        self.assertEqual(fault(same, Row(3, []), Row(3, [Free(0)]), watched=[-1, 3]), ("NoPerson", -1))
