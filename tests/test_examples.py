"""The examples of the document, block by block."""

import unittest

from glueroom.book import Book
from glueroom.desk import Desk
from glueroom.differences import differ, is_difference
from glueroom.divisions import Division, alone
from glueroom.finders import Finder
from glueroom.losses import count_starts, known, undo
from glueroom.pictures import picture, same, seen
from glueroom.powers import cycle, far, forgets, power
from glueroom.roomtexts import division_text, read_row, row_text
from glueroom.rows import Free, Join, Move, Row, Swap, run
from glueroom.wishes import matters, meeting, wish
from tests.helpers import fault


class TestExamples(unittest.TestCase):
    def test_groups(self):
        self.assertEqual(Division(4, [[3, 1], [0]]).groups, ((0,), (1, 3), (2,)))

    def test_twice(self):
        self.assertEqual(fault(Division, 3, [[0, 1], [1, 2]]), ("Twice", 1))

    def test_no_person(self):
        self.assertEqual(fault(Row, 2, [Join(0, 2)]), ("NoPerson", 2))

    def test_run(self):
        row = Row(4, [Join(0, 1), Free(0), Free(1)])
        self.assertEqual(run(row, Division(4, [[0, 2], [1, 3]])).groups, ((0,), (1,), (2, 3)))

    def test_picture(self):
        shown = picture(Row(3, [Join(0, 1), Free(0), Free(1)]))
        self.assertEqual(
            (shown.classes, shown.dead), ((((0,), ()), ((1,), ()), ((2,), (2,))), ((0, 1),)))

    def test_seen(self):
        shown = seen(Row(3, [Join(0, 1), Free(0), Free(1)]))
        self.assertEqual((shown.classes, shown.dead), ((((0,), ()), ((1,), ()), ((2,), ())), ()))

    def test_same(self):
        self.assertIs(same(Row(2, [Swap(0, 1)]), Row(2, [])), True)
        self.assertIs(same(Row(3, [Swap(0, 1)]), Row(3, [])), False)

    def test_differ(self):
        self.assertEqual(differ(Row(3, [Swap(0, 1)]), Row(3, [])), ((0, 2),))
        self.assertEqual(
            differ(Row(4, [Join(0, 1), Free(0), Free(1)]), Row(4, [Free(0), Free(1)])), ((0, 2), (1, 3)))

    def test_is_difference(self):
        self.assertIs(is_difference(Row(3, [Swap(0, 1)]), Row(3, []), [(2, 1), (1, 1)]), True)

    def test_power(self):
        shown = power(Row(3, [Free(0), Move(1, 0)]), 10 ** 30)
        self.assertEqual((shown.classes, shown.dead), ((((0, 1), ()), ((2,), (2,))), ((0,), (1,))))

    def test_far(self):
        row = Row(3, [Swap(0, 1), Swap(1, 2)])
        self.assertEqual(far(row, Division(3, [[0, 1]]), 10 ** 30).groups, ((0, 2), (1,)))

    def test_cycle(self):
        self.assertEqual(
            (cycle(Row(2, [Swap(0, 1)])), cycle(Row(3, [Swap(0, 1)])), cycle(Row(3, [Join(0, 1)]))),
            ((0, 1), (0, 2), (1, 1)))

    def test_forgets(self):
        self.assertEqual((forgets(Row(3, [Free(0), Move(1, 0)])), forgets(Row(3, [Join(0, 1)]))), (1, None))

    def test_meeting(self):
        row = Row(3, [Join(0, 1), Free(2)])
        self.assertEqual((meeting(row, 0, 1), meeting(row, 0, 2)), ("always", "never"))

    def test_wish(self):
        self.assertEqual(wish(Row(3, [Swap(0, 1)]), [(0, 2)], [(0, 1)]).groups, ((0,), (1, 2)))
        self.assertIsNone(wish(Row(3, [Free(0)]), [(0, 2)], []))

    def test_matters(self):
        row = Row(4, [Join(0, 1), Free(0), Free(1)])
        self.assertEqual((matters(row, 0, 1), matters(row, 0, 2), matters(row, 2, 3)), (None, ((0, 3),), ()))

    def test_known(self):
        found = known(Row(3, [Swap(0, 1)]), Division(3, [[0, 2]]))
        self.assertEqual((found.together, found.apart), (((1, 2),), ((0, 1), (0, 2))))
        self.assertEqual(fault(known, Row(3, [Join(0, 1)]), alone(3)), ("NoStart",))

    def test_undo(self):
        lost = undo(Row(3, [Free(2)]))
        self.assertEqual((lost.one, lost.other), (0, 2))
        row = Row(3, [Swap(0, 1), Swap(1, 2)])
        self.assertEqual(run(undo(row), run(row, Division(3, [[0, 2]]))).groups, ((0, 2), (1,)))

    def test_count_starts(self):
        self.assertEqual(count_starts(Row(3, [Free(2)]), alone(3)), 3)

    def test_found(self):
        self.assertEqual(fault(Finder(2).found), ("NoAnswer",))

    def test_book(self):
        book = Book(3)
        book.keep("a", [Join(0, 1)])
        book.call("a")
        self.assertEqual((book.where().groups, book.many()), (((0, 1), (2,)), 2))

    def test_texts(self):
        self.assertEqual(division_text(Division(4, [[3, 1]])), "0 | 1 3 | 2")
        self.assertEqual(fault(read_row, 3, "join 0 1, free"), ("BadText", 1))
        self.assertEqual(row_text(Row(3, [Join(0, 1), Free(2)])), "join 0 1, free 2")

    def test_desk(self):
        desk = Desk(4)
        desk.tell("keep a join 0 1, free 0, free 1")
        desk.tell("keep b free 0, free 1")
        self.assertEqual(desk.tell("same a b"), ["differ 0-2 1-3"])
        self.assertEqual(Desk(2).tell("drop a"), ["refused norow"])
