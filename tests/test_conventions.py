"""Point [2]: the conventions, and the names and arguments of the interface."""

import copy
import importlib
import inspect
import unittest

from glueroom import errors
from glueroom.book import Book
from glueroom.desk import Desk
from glueroom.differences import differ, is_difference
from glueroom.divisions import Division, alone, together
from glueroom.finders import Finder
from glueroom.losses import Known, Lost, count_starts, known, normal, undo
from glueroom.pictures import Picture, picture, same, seen
from glueroom.powers import cycle, far, forgets, glued, power
from glueroom.roomtexts import division_text, read_division, read_row, row_text
from glueroom.rows import Free, Join, Move, Row, Swap, run
from glueroom.wishes import matters, meeting, wish
from tests.helpers import fault, mixed_rows, varied_rows

INTERFACE = {
    "errors": {
        "BadCount": "(what, count)",
        "NoPerson": "(person)",
        "Twice": "(person)",
        "NoName": "(name)",
        "NoRow": "(name)",
        "BadText": "(place)",
    },
    "divisions": {
        "Division": "(people, groups)",
        "alone": "(people)",
        "together": "(division, one, other)",
    },
    "rows": {
        "Join": "(one, other)",
        "Free": "(one)",
        "Swap": "(one, other)",
        "Move": "(one, other)",
        "Row": "(people, commands)",
        "run": "(row, start, *, rounds=1)",
    },
    "pictures": {
        "Picture": "(classes, dead)",
        "picture": "(row)",
        "seen": "(row, *, watched=None)",
        "same": "(row, other, *, watched=None)",
    },
    "differences": {
        "differ": "(row, other, *, watched=None)",
        "is_difference": "(row, other, pairs, *, watched=None)",
    },
    "powers": {
        "glued": "(first, second)",
        "power": "(row, rounds)",
        "far": "(row, start, rounds)",
        "cycle": "(row)",
        "forgets": "(row)",
    },
    "wishes": {
        "meeting": "(row, one, other)",
        "wish": "(row, wanted, apart)",
        "matters": "(row, one, other, *, watched=None)",
    },
    "losses": {
        "Known": "(together, apart)",
        "known": "(row, end)",
        "Lost": "(one, other)",
        "undo": "(row)",
        "normal": "(row)",
        "count_starts": "(row, end)",
    },
    "finders": {
        "Finder": "(people)",
    },
    "book": {
        "Book": "(people)",
    },
    "roomtexts": {
        "division_text": "(division)",
        "read_division": "(people, text)",
        "row_text": "(row)",
        "read_row": "(people, text)",
    },
    "desk": {
        "Desk": "(people)",
    },
}

METHODS = {
    Finder: {
        "question": "(self)",
        "hear": "(self, end)",
        "asked": "(self)",
        "found": "(self)",
    },
    Book: {
        "keep": "(self, name, commands)",
        "drop": "(self, name)",
        "row": "(self, name)",
        "names": "(self)",
        "seat": "(self, division)",
        "where": "(self)",
        "call": "(self, name)",
        "claim": "(self, name, other)",
        "claims": "(self)",
        "many": "(self)",
        "back": "(self)",
    },
    Desk: {
        "tell": "(self, row)",
    },
}

BARE_ERRORS = ("RoomError", "OtherCount", "NoStart", "NoQuestion", "NoAnswer", "NoBack")


class TestInterface(unittest.TestCase):
    def test_names_and_arguments(self):
        for place, wanted in INTERFACE.items():
            module = importlib.import_module("glueroom." + place)
            for name, arguments in wanted.items():
                self.assertEqual(str(inspect.signature(getattr(module, name))), arguments, name)

    def test_each_is_defined_in_its_file(self):
        for place, wanted in INTERFACE.items():
            module = importlib.import_module("glueroom." + place)
            for name in wanted:
                self.assertEqual(getattr(module, name).__module__, "glueroom." + place, name)
        module = importlib.import_module("glueroom.errors")
        for name in BARE_ERRORS:
            self.assertEqual(getattr(module, name).__module__, "glueroom.errors", name)

    def test_methods_are_defined_in_their_class(self):
        for place, wanted in METHODS.items():
            for name, arguments in wanted.items():
                self.assertIn(name, vars(place))
                self.assertEqual(str(inspect.signature(vars(place)[name])), arguments, name)
        for name in [*INTERFACE["errors"], *BARE_ERRORS[1:]]:
            self.assertEqual(str(inspect.signature(vars(getattr(errors, name))["told"])), "(self)", name)

    def test_keyword_only_arguments(self):
        row = Row(2, [])
        for action, given in (
            (run, (row, alone(2), 1)), (seen, (row, [0])), (same, (row, row, [0])), (differ, (row, row, [0])),
            (is_difference, (row, row, [], [0])), (matters, (row, 0, 1, [0])),
        ):
            with self.assertRaises(TypeError):
                action(*given)

    def test_by_keyword_as_by_position(self):
        self.assertEqual(Division(people=3, groups=[[0, 2]]), Division(3, [[0, 2]]))
        self.assertEqual(alone(people=3), alone(3))
        self.assertIs(together(division=alone(3), one=1, other=1), True)
        self.assertIs(together(other=0, one=1, division=alone(3)), False)
        for command in (Join, Swap, Move):
            self.assertEqual(command(one=1, other=2), command(1, 2))
            self.assertEqual(command(other=2, one=1), command(1, 2))
        self.assertEqual(Free(one=1), Free(1))
        row = Row(people=3, commands=[Swap(0, 1)])
        self.assertEqual(row, Row(3, [Swap(0, 1)]))
        start = Division(3, [[0, 2]])
        self.assertEqual(run(row=row, start=start, rounds=3), run(row, start, rounds=3))
        self.assertEqual(Picture(classes=[([0], [1])], dead=[[0]]), Picture([([0], [1])], [[0]]))
        self.assertEqual(picture(row=row), picture(row))
        self.assertEqual(seen(row=row, watched=[0, 2]), seen(row, watched=[0, 2]))
        self.assertIs(same(row=row, other=Row(3, []), watched=[0, 1]), True)

    def test_by_keyword_as_by_position_in_questions(self):
        row = Row(3, [Swap(0, 1)])
        other = Row(3, [])
        start = Division(3, [[0, 2]])
        self.assertEqual(differ(row=row, other=other, watched=[0, 2]), differ(row, other, watched=[0, 2]))
        self.assertIs(is_difference(row=row, other=other, pairs=[(0, 2)], watched=[0, 2]), True)
        self.assertIs(is_difference(pairs=[(0, 1)], other=other, row=row), False)
        self.assertEqual(glued(second=Row(3, [Free(2)]), first=row), glued(row, Row(3, [Free(2)])))
        self.assertEqual(power(rounds=3, row=row), power(row, 3))
        self.assertEqual(far(row=row, start=start, rounds=3), far(row, start, 3))
        self.assertEqual((cycle(row=row), forgets(row=row)), ((0, 2), None))
        self.assertEqual(meeting(row=row, one=0, other=2), "sometimes")
        self.assertEqual(wish(apart=[(0, 1)], wanted=[(0, 2)], row=row), wish(row, [(0, 2)], [(0, 1)]))
        self.assertEqual(matters(row=row, one=0, other=1, watched=[0, 2]), matters(row, 0, 1, watched=[0, 2]))
        self.assertEqual(known(row=row, end=start), known(row, start))
        self.assertEqual(Known(apart=[(0, 1)], together=[(0, 2)]), Known([(0, 2)], [(0, 1)]))
        self.assertEqual(Lost(other=1, one=0), Lost(0, 1))
        self.assertEqual((undo(row=row), normal(row=row)), (undo(row), normal(row)))
        self.assertEqual(count_starts(row=row, end=start), 1)

    def test_by_keyword_as_by_position_in_finders_and_texts(self):
        finder = Finder(people=2)
        self.assertEqual(finder.question(), Finder(2).question())
        finder.hear(end=finder.question())
        finder.hear(end=Division(2, [[0, 1]]))
        self.assertEqual(finder.found(), seen(Row(2, [])))
        self.assertEqual(division_text(division=Division(3, [[0, 2]])), "0 2 | 1")
        self.assertEqual(read_division(text="0 2", people=3), read_division(3, "0 2"))
        self.assertEqual(row_text(row=Row(3, [Free(2)])), "free 2")
        self.assertEqual(read_row(text="free 2", people=3), read_row(3, "free 2"))

    def test_by_keyword_as_by_position_in_books_and_desks(self):
        book = Book(people=3)
        book.keep(commands=[Swap(0, 1)], name="a")
        book.keep(name="b", commands=())
        self.assertEqual(book.row(name="a"), book.row("a"))
        book.seat(division=Division(3, [[0, 2]]))
        book.call(name="a")
        self.assertEqual(book.where(), Division(3, [[1, 2]]))
        self.assertIs(book.claim(other="a", name="b"), False)
        self.assertEqual(book.claims(), [("a", "b", False)])
        book.drop(name="b")
        self.assertEqual((book.names(), book.many()), (["a"], 6))
        desk = Desk(people=3)
        self.assertEqual(desk.tell(row="where"), desk.tell("where"))


class TestArguments(unittest.TestCase):
    def test_lists_and_tuples_are_accepted_alike(self):
        wanted = Division(4, [[0, 2], [1, 3]])
        for groups in (((0, 2), (1, 3)), [(0, 2), [1, 3]], ([0, 2], [1, 3])):
            self.assertEqual(Division(4, groups), wanted)
        self.assertEqual(Row(2, (Free(0), Join(0, 1))), Row(2, [Free(0), Join(0, 1)]))
        wanted = Picture([([0], [1]), ([1], [])], [[0]])
        self.assertEqual(Picture(([(0,), (1,)], ((1,), ())), ((0,),)), wanted)
        row = Row(3, [Swap(0, 1)])
        self.assertEqual(seen(row, watched=(0, 2)), seen(row, watched=[0, 2]))
        self.assertIs(same(row, Row(3, []), watched=(0, 2)), False)
        self.assertIs(same(row, Row(3, []), watched=[0, 2]), False)

    def test_lists_and_tuples_are_accepted_alike_in_questions(self):
        row = Row(4, [Swap(0, 1), Free(3)])
        other = Row(4, [])
        for watched in ([2, 0, 1], (2, 0, 1)):
            self.assertEqual(differ(row, other, watched=watched), ((0, 2),))
            self.assertEqual(matters(row, 1, 3, watched=watched), ((0, 3),))
            for pairs in ([(0, 2)], ((2, 0),), [[0, 2]], ([2, 0],)):
                self.assertIs(is_difference(row, other, pairs, watched=watched), True)
        wanted = wish(row, [(0, 2)], [(0, 1)])
        self.assertIsNotNone(wanted)
        for pairs, others in (([[0, 2]], [[0, 1]]), (((0, 2),), ((0, 1),)), (([0, 2],), [(0, 1)])):
            self.assertEqual(wish(row, pairs, others), wanted)
        for pairs in ([[1, 0], [0, 3]], ((1, 0), (0, 3)), ([0, 3], (0, 1))):
            self.assertEqual(Known(pairs, pairs), Known([(0, 1), (0, 3)], [(0, 1), (0, 3)]))

    def test_lists_and_tuples_are_accepted_alike_in_books(self):
        first = Book(3)
        second = Book(3)
        first.keep("a", [Free(0), Swap(1, 2)])
        second.keep("a", (Free(0), Swap(1, 2)))
        self.assertEqual(first.row("a"), second.row("a"))
        first.keep("a", (Free(0), Swap(1, 2)))
        self.assertEqual(first.many(), 1)

    def test_later_changes_of_lists_have_no_effect(self):
        groups = [[0, 2], [1]]
        division = Division(3, groups)
        groups[0].append(1)
        groups.pop()
        self.assertEqual(division.groups, ((0, 2), (1,)))

        commands = [Free(0), Join(0, 1)]
        row = Row(2, commands)
        commands.append(Free(1))
        commands[0] = Free(1)
        self.assertEqual(row.commands, (Free(0), Join(0, 1)))

        classes = [[[0, 1], [1]], [[2], []]]
        dead = [[0], [2]]
        shown = Picture(classes, dead)
        classes[0][0].append(7)
        classes[0][1].clear()
        classes.pop()
        dead[0].append(8)
        dead.pop()
        self.assertEqual((shown.classes, shown.dead), ((((0, 1), (1,)), ((2,), ())), ((0,), (2,))))

        pairs = [[0, 1], [0, 2]]
        found = Known(pairs, pairs)
        pairs[0].append(3)
        pairs.pop()
        self.assertEqual((found.together, found.apart), (((0, 1), (0, 2)), ((0, 1), (0, 2))))

    def test_arguments_are_not_changed(self):
        groups = [[3, 1], [2, 0]]
        commands = [Swap(1, 0), Free(2)]
        classes = [([2, 1], [1, 0]), ([0], [])]
        dead = [[3, 2], [1]]
        watched = [2, 0, 2]
        given = (groups, commands, classes, dead, watched)
        before = copy.deepcopy(given)
        start = Division(4, groups)
        row = Row(4, commands)
        Picture(classes, dead)
        seen(row, watched=watched)
        same(row, Row(4, []), watched=watched)
        run(row, start, rounds=2)
        together(start, 0, 2)
        self.assertEqual(given, before)
        self.assertEqual((start, row), (Division(4, before[0]), Row(4, before[1])))

    def test_arguments_of_questions_are_not_changed(self):
        wanted = [[2, 1], (1, 1)]
        apart = [[3, 0], [2, 0]]
        watched = [3, 1, 3]
        given = (wanted, apart, watched)
        before = copy.deepcopy(given)
        row = Row(4, [Swap(0, 1), Free(3)])
        other = Row(4, [Join(2, 1)])
        start = Division(4, [[0, 2], [1, 3]])
        differ(row, other, watched=watched)
        is_difference(row, other, wanted, watched=watched)
        wish(row, wanted, apart)
        matters(row, 0, 3, watched=watched)
        meeting(row, 1, 2)
        Known(wanted, apart)
        glued(row, other)
        far(row, start, 10 ** 30)
        for action in (cycle, forgets, undo, normal):
            action(row)
        known(row, run(row, start))
        count_starts(row, start)
        self.assertEqual(given, before)
        self.assertEqual(row, Row(4, [Swap(0, 1), Free(3)]))
        self.assertEqual(other, Row(4, [Join(2, 1)]))
        self.assertEqual(start, Division(4, [[0, 2], [1, 3]]))

    def test_arguments_of_books_and_texts_are_not_changed(self):
        commands = [Swap(1, 0), Free(2)]
        start = Division(3, [[1, 2]])
        row = Row(3, commands)
        book = Book(3)
        book.keep("a", commands)
        book.seat(start)
        book.call("a")
        fault(book.keep, "b", commands * 40)
        division_text(start)
        row_text(row)
        finder = Finder(3)
        finder.hear(start)
        self.assertEqual(commands, [Swap(1, 0), Free(2)])
        self.assertEqual((start, row), (Division(3, [[1, 2]]), Row(3, [Swap(1, 0), Free(2)])))

    def test_equal_calls_have_equal_results(self):
        def results():
            row = Row(4, [Join(0, 1), Free(0), Swap(2, 3)])
            start = Division(4, [[0, 2]])
            return (start, alone(4), row, run(row, start), picture(row), seen(row), seen(row, watched=[3, 0]))

        self.assertEqual(results(), results())

    def test_equal_calls_of_questions_have_equal_results(self):
        def results(kind):
            found = []
            for row, other in zip(varied_rows(5, 30, 6, 1), mixed_rows(5, 30, 6, 2)):
                row = Row(5, kind(row.commands))
                start = Division(5, kind([kind([0, 2]), kind([1, 4])]))
                found += [differ(row, other, watched=kind([1, 2, 3])), glued(row, other), power(row, 10 ** 9)]
                found += [far(row, start, 77), cycle(row), forgets(row), meeting(row, 0, 3), undo(row), normal(row)]
                found += [wish(row, kind([kind([0, 1]), kind([2, 3])]), kind([kind([0, 4])])), matters(row, 1, 3)]
                found += [is_difference(row, other, kind([kind([0, 1])])), known(row, run(row, start))]
                found += [count_starts(row, run(row, start))]
            return found

        self.assertEqual(results(list), results(list))
        self.assertEqual(results(list), results(tuple))


    def test_equal_calls_of_finders_and_desks_have_equal_results(self):
        def results():
            found = []
            for row in varied_rows(5, 20, 6, 3):
                finder = Finder(5)
                question = finder.question()
                while question is not None:
                    found.append(question)
                    finder.hear(run(row, question))
                    question = finder.question()
                found += [finder.found(), finder.asked(), row_text(row), read_row(5, row_text(row))]
                desk = Desk(5)
                for command in ("keep a " + row_text(row), "call a", "where", "same a a", "cycle a", "forgets a"):
                    found.append(desk.tell(command))
            return found

        self.assertEqual(results(), results())


class TestEquality(unittest.TestCase):
    def everything(self):
        return [
            Division(1, []), Division(2, []), Division(2, [[0, 1]]),
            Join(0, 1), Join(1, 0), Swap(0, 1), Move(0, 1), Free(0), Free(1),
            Row(1, []), Row(2, []), Row(2, [Free(0)]), Row(2, [Free(1)]),
            Picture([], []), Picture([([0], [])], []), Picture([([0], [0])], []), Picture([], [[0]]),
            Known([], []), Known([(0, 1)], []), Known([], [(0, 1)]), Lost(0, 1), Lost(1, 0),
        ]

    def test_equal_only_to_the_same_class_with_equal_fields(self):
        for at, thing in enumerate(self.everything()):
            for place, other in enumerate(self.everything()):
                self.assertIs(thing == other, at == place)
                self.assertIs(thing != other, at != place)

    def test_never_equal_to_another_kind_of_value(self):
        for thing in self.everything():
            fields = tuple(vars(thing).values())
            for other in (fields, list(fields), fields[0], None, 0, "", vars(thing)):
                self.assertIs(thing == other, False)
                self.assertIs(thing != other, True)
                self.assertIs(other == thing, False)

    def test_same_fields_in_another_class_differ(self):
        self.assertNotEqual(Division(1, []), Row(1, []))
        self.assertNotEqual(Row(1, []), Picture([], []))
        self.assertNotEqual(Join(0, 0), Swap(0, 0))
        self.assertNotEqual(Swap(0, 0), Move(0, 0))
        self.assertNotEqual(Lost(0, 1), Join(0, 1))
        self.assertNotEqual(Swap(0, 1), Lost(0, 1))
        self.assertNotEqual(Known([], []), Picture([], []))
