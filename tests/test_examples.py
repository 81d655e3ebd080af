"""The examples of the document, block by block."""

import unittest

from glueroom.divisions import Division
from glueroom.pictures import picture, same, seen
from glueroom.rows import Free, Join, Row, Swap, run
from tests.helpers import fault


class TestExamples(unittest.TestCase):
    def test_groups(self):
        self.assertEqual(Division(4, [[3, 1], [0]]).groups, ((0,), (1, 3), (2,)))

    def test_twice(self):
        self.assertEqual(fault(Division, 3, [[0, 1], [1, 2]]), ("Twice", 1))

    def test_no_person(self):
        self.assertEqual(fault(Row, 2, [Join(0, 2)]), ("NoPerson", 2))

    def test_run(self):
        row = Row(4, [Join(0, 1), Free(0), Free(1)])
        self.assertEqual(run(row, Division(4, [[0, 2], [1, 3]])).groups, ((0,), (1,), (2, 3)))

    def test_picture(self):
        shown = picture(Row(3, [Join(0, 1), Free(0), Free(1)]))
        self.assertEqual(
            (shown.classes, shown.dead), ((((0,), ()), ((1,), ()), ((2,), (2,))), ((0, 1),)))

    def test_seen(self):
        shown = seen(Row(3, [Join(0, 1), Free(0), Free(1)]))
        self.assertEqual((shown.classes, shown.dead), ((((0,), ()), ((1,), ()), ((2,), ())), ()))

    def test_same(self):
        self.assertIs(same(Row(2, [Swap(0, 1)]), Row(2, [])), True)
        self.assertIs(same(Row(3, [Swap(0, 1)]), Row(3, [])), False)
