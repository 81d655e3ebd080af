"""Point [18]: the book."""

import random
import unittest

from glueroom.book import Book
from glueroom.divisions import Division, alone
from glueroom.pictures import same
from glueroom.rows import Free, Join, Move, Row, Swap, run
from tests.helpers import fault, mixed_rows

EIGHT = ("a", "b", "c", "d", "e", "f", "g", "h")

BAD_NAMES = (
    "", "abcdefghi", "a" * 100, "1", "1a", "0abc", "A", "aB", "Abc", "a b", " a", "a ", " ", "a_b", "_a", "a-b", "-", "a.b",
    "a,", "a|b", "~", "a~", "!", "{a}", "a'", '"',
)


def state(book):
    """Return all that a book shows."""
    names = book.names()
    return (names, [book.row(name) for name in names], book.where(), book.claims(), book.many())


def filled(people=3):
    """Return a book with rows, a division and claims."""
    book = Book(people)
    book.keep("a", [Join(0, 1)])
    book.keep("b", [Join(1, 0)])
    book.keep("c", [Free(2)])
    book.seat(Division(people, [[1, 2]]))
    book.call("a")
    book.claim("a", "b")
    book.claim("c", "a")
    book.claim("c", "c")
    return book


class TestRows(unittest.TestCase):
    def test_at_first(self):
        for people in (1, 2, 16):
            self.assertEqual(state(Book(people)), ([], [], alone(people), [], 0))

    def test_numbers_of_people(self):
        for people in (0, 17, -1, 10 ** 30):
            self.assertEqual(fault(Book, people), ("BadCount", "people", people))

    def test_keep_and_row(self):
        book = Book(3)
        self.assertIsNone(book.keep("a", [Join(0, 1), Free(2)]))
        book.keep("b", ())
        self.assertEqual(book.row("a"), Row(3, [Join(0, 1), Free(2)]))
        self.assertIs(type(book.row("b")), Row)
        self.assertEqual((book.row("b"), book.names(), book.many()), (Row(3, []), ["a", "b"], 2))

    def test_replaced_and_dropped(self):
        book = Book(3)
        book.keep("a", [Free(0)])
        book.keep("a", [Free(1)])
        self.assertEqual((book.row("a"), book.many()), (Row(3, [Free(1)]), 2))
        self.assertIsNone(book.drop("a"))
        self.assertEqual((book.names(), book.many()), ([], 3))
        self.assertEqual(fault(book.row, "a"), ("NoRow", "a"))

    def test_names_in_ascending_order(self):
        book = Book(2)
        for name in ("b", "a10", "zz", "a", "a9", "ab", "b0"):
            book.keep(name, [])
        self.assertEqual(book.names(), ["a", "a10", "a9", "ab", "b", "b0", "zz"])
        self.assertIs(type(book.names()), list)

    def test_valid_names(self):
        for name in ("a", "z", "a0", "z9", "abcdefgh", "a1234567", "x9y8z7w6", "keep", "none", "back"):
            book = Book(2)
            book.keep(name, [Free(0)])
            self.assertEqual((book.names(), book.row(name)), ([name], Row(2, [Free(0)])))
        for sign in "abcdefghijklmnopqrstuvwxyz0123456789":
            Book(2).keep("a" + sign, [])

    def test_invalid_names(self):
        for name in BAD_NAMES:
            book = Book(2)
            self.assertEqual(fault(book.keep, name, []), ("NoName", name))
            self.assertEqual(state(book), state(Book(2)))

    def test_every_other_character(self):
        for sign in map(chr, range(32, 127)):
            if sign != "%" and not (sign.isdigit() or sign.islower()):
                self.assertEqual(fault(Book(2).keep, "a" + sign, []), ("NoName", "a" + sign))
            if sign != "%" and not sign.islower():
                self.assertEqual(fault(Book(2).keep, sign + "a", []), ("NoName", sign + "a"))

    def test_the_ninth_name(self):
        book = Book(2)
        for name in EIGHT:
            book.keep(name, [])
        self.assertEqual((book.names(), book.many()), (list(EIGHT), 8))
        before = state(book)
        self.assertEqual(fault(book.keep, "i", []), ("BadCount", "rows", 9))
        self.assertEqual(state(book), before)
        book.keep("h", [Free(0)])
        self.assertEqual((book.row("h"), book.many()), (Row(2, [Free(0)]), 9))
        book.keep("a", [])
        self.assertEqual(book.many(), 9)
        book.drop("c")
        book.keep("i", [])
        self.assertEqual(book.names(), ["a", "b", "d", "e", "f", "g", "h", "i"])
        self.assertEqual(fault(book.keep, "c", []), ("BadCount", "rows", 9))

    def test_which_error_of_keep_comes_first(self):
        wrong = [Free(7)] * 61
        book = Book(2)
        for name in EIGHT:
            book.keep(name, [])
        before = state(book)
        self.assertEqual(fault(book.keep, "A", wrong), ("NoName", "A"))
        self.assertEqual(fault(book.keep, "", []), ("NoName", ""))
        self.assertEqual(fault(book.keep, "i", wrong), ("BadCount", "rows", 9))
        self.assertEqual(fault(book.keep, "h", wrong), ("BadCount", "commands", 61))
        self.assertEqual(fault(book.keep, "h", wrong[1:]), ("NoPerson", 7))
        self.assertEqual(fault(book.keep, "h", [Join(0, 3), Free(-1)]), ("NoPerson", 3))
        self.assertEqual(state(book), before)

    def test_names_that_are_not_in_use(self):
        book = filled()
        before = state(book)
        for name in BAD_NAMES + ("d", "aa"):
            for action in (book.drop, book.row, book.call):
                self.assertEqual(fault(action, name), ("NoRow", name))
            self.assertEqual(fault(book.claim, name, "a"), ("NoRow", name))
            self.assertEqual(fault(book.claim, "a", name), ("NoRow", name))
            self.assertEqual(fault(book.claim, name, "zz"), ("NoRow", name))
            self.assertEqual(fault(book.claim, "zz", name), ("NoRow", "zz"))
        self.assertEqual(state(book), before)


class TestDivision(unittest.TestCase):
    def test_seat_and_where(self):
        book = Book(4)
        division = Division(4, [[0, 2], [1, 3]])
        self.assertIsNone(book.seat(division))
        self.assertEqual((book.where(), book.many()), (division, 1))
        self.assertIs(type(book.where()), Division)

    def test_other_count(self):
        book = filled()
        before = state(book)
        for people in (1, 2, 4, 16):
            self.assertEqual(fault(book.seat, alone(people)), ("OtherCount",))
        self.assertEqual(state(book), before)

    def test_call(self):
        book = Book(4)
        book.keep("a", [Join(0, 1), Free(0), Free(1)])
        start = Division(4, [[0, 2], [1, 3]])
        book.seat(start)
        self.assertIsNone(book.call("a"))
        self.assertEqual((book.where(), book.many()), (run(book.row("a"), start), 3))
        self.assertEqual(book.where(), Division(4, [[2, 3]]))

    def test_calls_one_after_the_other(self):
        book = Book(5)
        where = Division(5, [[0, 3]])
        book.seat(where)
        for row in mixed_rows(5, 60, 6, 1):
            book.keep("a", row.commands)
            book.call("a")
            where = run(row, where)
            self.assertEqual(book.where(), where)


class TestClaims(unittest.TestCase):
    def test_results(self):
        book = Book(3)
        book.keep("a", [Swap(0, 1)])
        book.keep("b", [Swap(1, 0)])
        book.keep("c", [])
        self.assertIs(book.claim("a", "b"), True)
        self.assertIs(book.claim("c", "a"), False)
        self.assertIs(book.claim("c", "c"), True)
        self.assertEqual(book.claims(), [("a", "b", True), ("a", "c", False), ("c", "c", True)])
        self.assertEqual([type(claim) for claim in book.claims()], [tuple] * 3)
        self.assertEqual(book.many(), 6)

    def test_against_same(self):
        rows = mixed_rows(3, 8, 3, 4)
        book = Book(3)
        for name, row in zip(EIGHT, rows):
            book.keep(name, row.commands)
        for name, row in zip(EIGHT, rows):
            for other, second in zip(EIGHT, rows):
                self.assertIs(book.claim(name, other), same(row, second))
        wanted = [
            (name, other, same(row, second))
            for name, row in zip(EIGHT, rows) for other, second in zip(EIGHT, rows) if name <= other
        ]
        self.assertEqual((book.claims(), book.many()), (wanted, 8 + 36))
        self.assertGreater(sum(result for _, _, result in wanted), 8)
        self.assertGreater(sum(not result for _, _, result in wanted), 8)

    def test_both_orders_are_the_same_claim(self):
        for first, second in (("b", "a"), ("a", "b")):
            book = Book(2)
            book.keep("a", [Free(0)])
            book.keep("b", [])
            self.assertIs(book.claim(first, second), False)
            self.assertIs(book.claim(second, first), False)
            self.assertEqual((book.claims(), book.many()), ([("a", "b", False)], 3))

    def test_sorted(self):
        book = Book(2)
        for name in ("b", "a10", "a9", "a"):
            book.keep(name, [])
        for name, other in (("b", "b"), ("b", "a"), ("a9", "a10"), ("a", "a"), ("a10", "b"), ("a9", "a")):
            book.claim(name, other)
        self.assertEqual(book.claims(), [
            ("a", "a", True), ("a", "a9", True), ("a", "b", True), ("a10", "a9", True), ("a10", "b", True),
            ("b", "b", True)])

    def test_removed_when_a_row_is_dropped(self):
        book = filled()
        self.assertEqual(book.claims(), [("a", "b", True), ("a", "c", False), ("c", "c", True)])
        book.drop("b")
        self.assertEqual(book.claims(), [("a", "c", False), ("c", "c", True)])
        book.drop("c")
        self.assertEqual(book.claims(), [])
        book.keep("b", [Join(1, 0)])
        self.assertEqual(book.claims(), [])

    def test_removed_when_a_row_is_replaced_by_an_unequal_one(self):
        book = filled()
        book.keep("b", [Join(0, 1)])
        self.assertEqual(book.claims(), [("a", "c", False), ("c", "c", True)])
        book.keep("c", [Free(2), Free(2)])
        self.assertEqual(book.claims(), [])
        self.assertIs(book.claim("a", "b"), True)

    def test_kept_when_a_row_is_replaced_by_an_equal_one(self):
        book = filled()
        before = state(book)
        for name, commands in (("a", (Join(0, 1),)), ("b", [Join(1, 0)]), ("c", [Free(2)])):
            book.keep(name, commands)
            self.assertEqual(state(book), before)

    def test_kept_when_other_things_change(self):
        book = filled()
        claims = book.claims()
        book.keep("d", [])
        book.drop("d")
        book.seat(alone(3))
        book.call("a")
        self.assertEqual(book.claims(), claims)


class TestChanges(unittest.TestCase):
    def test_what_does_not_change_the_state(self):
        book = filled()
        before = state(book)
        book.keep("a", [Join(0, 1)])
        book.keep("a", (Join(0, 1),))
        book.seat(Division(3, [[2, 1, 0]]))
        book.call("a")
        book.claim("b", "a")
        book.claim("a", "b")
        book.claim("c", "c")
        for action in (book.names, book.where, book.claims, book.many):
            action()
        book.row("a")
        self.assertEqual(state(book), before)
        book.back()
        self.assertEqual(book.claims(), [("a", "b", True), ("a", "c", False)])

    def test_each_kind_of_change_and_back(self):
        for change in (
            lambda book: book.keep("d", [Swap(0, 1)]),
            lambda book: book.keep("a", [Swap(0, 1)]),
            lambda book: book.keep("c", []),
            lambda book: book.drop("a"),
            lambda book: book.drop("c"),
            lambda book: book.seat(alone(3)),
            lambda book: book.call("c"),
            lambda book: book.claim("b", "c"),
            lambda book: book.claim("a", "a"),
        ):
            book = filled()
            before = state(book)
            change(book)
            after = state(book)
            self.assertNotEqual(after[:4], before[:4])
            self.assertEqual(book.many(), before[4] + 1)
            self.assertIsNone(book.back())
            self.assertEqual(state(book), before)
            change(book)
            self.assertEqual(state(book), after)

    def test_nothing_to_undo(self):
        book = Book(2)
        self.assertEqual(fault(book.back), ("NoBack",))
        book.keep("a", [])
        book.back()
        self.assertEqual(fault(book.back), ("NoBack",))
        self.assertEqual(state(book), state(Book(2)))

    def test_errors_are_not_changes(self):
        book = Book(2)
        fault(book.keep, "A", [])
        fault(book.keep, "a", [Free(2)])
        fault(book.drop, "a")
        fault(book.seat, alone(3))
        fault(book.call, "a")
        fault(book.claim, "a", "a")
        self.assertEqual(fault(book.back), ("NoBack",))

    def change(self, book, chance):
        """Try some change; it may also be none, or an error."""
        names = ("a", "b", "c", "d1")
        kind = chance.randrange(6)
        try:
            if kind == 0:
                book.keep(chance.choice(names), chance.choice(self.rows).commands)
            elif kind == 1:
                book.drop(chance.choice(names))
            elif kind == 2:
                book.seat(Division(3, [chance.sample(range(3), chance.randint(1, 3))]))
            elif kind == 3:
                book.call(chance.choice(names))
            else:
                book.claim(chance.choice(names), chance.choice(names))
        except ValueError:
            return

    def test_back_to_the_beginning_after_hundreds_of_changes(self):
        self.rows = mixed_rows(3, 8, 2, 3)
        for seed in range(4):
            chance = random.Random(seed)
            book = Book(3)
            states = [state(book)]
            while len(states) < 400:
                self.change(book, chance)
                now = state(book)
                if now != states[-1]:
                    self.assertEqual(book.many(), len(states))
                    self.assertNotEqual(now[:4], states[-1][:4])
                    states.append(now)
                elif chance.random() < 0.3 and len(states) > 1:
                    # Go back a step now and then, so that changes come after it.
                    book.back()
                    states.pop()
                    self.assertEqual(state(book), states[-1])
            while len(states) > 1:
                states.pop()
                book.back()
                self.assertEqual(state(book), states[-1])
            self.assertEqual(fault(book.back), ("NoBack",))
            self.assertEqual(state(book), state(Book(3)))

    def test_changes_after_back(self):
        book = filled()
        book.back()
        book.back()
        many = book.many()
        book.keep("d", [Move(0, 2)])
        self.assertEqual((book.names(), book.many()), (["a", "b", "c", "d"], many + 1))
        book.back()
        self.assertEqual((book.claims(), book.many()), ([("a", "b", True)], many))

    def test_two_books_at_once(self):
        first = Book(3)
        second = Book(3)
        first.keep("a", [Join(0, 1)])
        second.keep("a", [Free(0)])
        first.call("a")
        second.claim("a", "a")
        self.assertEqual(state(first), (["a"], [Row(3, [Join(0, 1)])], Division(3, [[0, 1]]), [], 2))
        self.assertEqual(state(second), (["a"], [Row(3, [Free(0)])], alone(3), [("a", "a", True)], 2))
        first.back()
        self.assertEqual(second.many(), 2)


class TestWhatIsGivenAndReturned(unittest.TestCase):
    def test_what_was_returned_stays_as_it_is(self):
        book = filled()
        row = book.row("a")
        where = book.where()
        names = book.names()
        claims = book.claims()
        book.keep("a", [Free(0)])
        book.seat(alone(3))
        book.drop("b")
        book.back()
        self.assertEqual(row, Row(3, [Join(0, 1)]))
        self.assertEqual(where, Division(3, [[0, 1, 2]]))
        self.assertEqual(names, ["a", "b", "c"])
        self.assertEqual(claims, [("a", "b", True), ("a", "c", False), ("c", "c", True)])

    def test_changes_of_returned_lists_have_no_effect(self):
        book = filled()
        before = state(book)
        book.names().append("z")
        book.names().clear()
        book.claims().clear()
        book.claims().append(("a", "a", True))
        self.assertEqual(state(book), before)

    def test_later_changes_of_commands_have_no_effect(self):
        book = Book(3)
        commands = [Free(0)]
        book.keep("a", commands)
        commands.append(Free(1))
        self.assertEqual(book.row("a"), Row(3, [Free(0)]))
        book.keep("a", commands)
        commands.clear()
        self.assertEqual((book.row("a"), book.many()), (Row(3, [Free(0), Free(1)]), 2))
