"""Point [20]: the desk."""

import unittest

from glueroom.desk import Desk
from glueroom.differences import differ
from glueroom.divisions import Division
from glueroom.powers import cycle, far, forgets
from glueroom.roomtexts import division_text, read_row, row_text
from glueroom.rows import Row
from glueroom.wishes import meeting
from tests.helpers import fault, mixed_rows, varied_rows

DONE = ["done"]
LETTERS = "abcdefgh"

# Every command with the right words behind it, for a desk with the rows a and b.
COMMANDS = (
    "keep c free 0", "drop a", "seat 0 1", "call a", "back", "row a", "names", "where", "same a b", "claim a b",
    "meeting a 0 1", "far a 3", "cycle a", "forgets a",
)


def told(desk, *commands):
    """Return the answers to several commands."""
    return [desk.tell(command) for command in commands]


def filled():
    desk = Desk(3)
    told(desk, "keep a join 0 1", "keep b free 2", "seat 1 2", "claim a b")
    return desk


def state(desk):
    """Return all that a desk shows, and how many changes can be undone, without changing it."""
    names = desk.tell("names")
    rows = [desk.tell("row " + name) for name in names]
    return (names, rows, desk.tell("where"), desk.book.claims(), desk.book.many())


class TestAnswers(unittest.TestCase):
    def test_keep_row_names_and_drop(self):
        desk = Desk(4)
        self.assertEqual(desk.tell("names"), [])
        self.assertEqual(desk.tell("keep b join 0 1, free 0, free 1"), DONE)
        self.assertEqual(desk.tell("keep a none"), DONE)
        self.assertEqual(desk.tell("names"), ["a", "b"])
        self.assertEqual(desk.tell("row b"), ["join 0 1, free 0, free 1"])
        self.assertEqual(desk.tell("row a"), ["none"])
        self.assertEqual(desk.tell("keep a swap 3 2, move 1 0"), DONE)
        self.assertEqual(desk.tell("row a"), ["swap 3 2, move 1 0"])
        self.assertEqual(desk.tell("drop b"), DONE)
        self.assertEqual(desk.tell("names"), ["a"])

    def test_seat_where_and_call(self):
        desk = Desk(4)
        self.assertEqual(desk.tell("where"), ["0 | 1 | 2 | 3"])
        self.assertEqual(desk.tell("seat 3 1 | 0"), DONE)
        self.assertEqual(desk.tell("where"), ["0 | 1 3 | 2"])
        self.assertEqual(told(desk, "keep a join 0 1, free 3", "call a"), [DONE, DONE])
        self.assertEqual(desk.tell("where"), ["0 1 | 2 | 3"])

    def test_same(self):
        desk = Desk(4)
        told(desk, "keep a join 0 1, free 0, free 1", "keep b free 0, free 1", "keep c swap 0 1", "keep d none")
        told(desk, "keep e swap 1 0", "keep f join 2 3")
        self.assertEqual(desk.tell("same c e"), ["same"])
        self.assertEqual(desk.tell("same a a"), ["same"])
        self.assertEqual(desk.tell("same d f"), ["differ"])
        self.assertEqual(desk.tell("same c d"), ["differ 0-2"])
        self.assertEqual(desk.tell("same a b"), ["differ 0-2 1-3"])
        self.assertEqual(desk.tell("same b a"), ["differ 0-2 1-3"])

    def test_same_with_large_numbers(self):
        desk = Desk(16)
        told(desk, "keep a swap 10 15", "keep b none")
        told(desk, "keep c " + ", ".join(f"free {person}" for person in range(14)), "keep d join 0 15")
        self.assertEqual(desk.tell("same a b"), ["differ 0-10"])
        self.assertEqual(desk.tell("same b c"), ["differ 0-1"])
        self.assertEqual(desk.tell("same b d"), ["differ"])

    def test_claim(self):
        desk = Desk(3)
        told(desk, "keep a swap 0 1", "keep b swap 1 0", "keep c none")
        self.assertEqual(desk.tell("claim b a"), ["true"])
        self.assertEqual(desk.tell("claim a c"), ["false"])
        self.assertEqual(desk.tell("claim c c"), ["true"])
        self.assertEqual(desk.book.claims(), [("a", "b", True), ("a", "c", False), ("c", "c", True)])
        self.assertEqual(told(desk, "back", "back", "claim c a"), [DONE, DONE, ["false"]])

    def test_meeting(self):
        desk = Desk(3)
        told(desk, "keep a join 0 1, free 2", "keep b none")
        self.assertEqual(desk.tell("meeting a 0 1"), ["always"])
        self.assertEqual(desk.tell("meeting a 2 0"), ["never"])
        self.assertEqual(desk.tell("meeting b 1 2"), ["sometimes"])
        self.assertEqual(desk.tell("meeting b 1 1"), ["always"])

    def test_far_from_the_current_division(self):
        desk = Desk(3)
        told(desk, "keep a swap 0 1, swap 1 2")
        self.assertEqual(desk.tell("far a 0"), ["0 | 1 | 2"])
        desk.tell("seat 0 1")
        self.assertEqual(desk.tell("far a 0"), ["0 1 | 2"])
        self.assertEqual(desk.tell("far a 1"), desk.tell("far a 4"))
        self.assertEqual(desk.tell("far a 1" + "0" * 30), ["0 2 | 1"])
        self.assertEqual(desk.tell("where"), ["0 1 | 2"])

    def test_cycle_and_forgets(self):
        desk = Desk(3)
        told(desk, "keep a swap 0 1", "keep b join 0 1", "keep c free 0, move 1 0", "keep d none")
        told(desk, "keep e join 0 1, join 1 2")
        self.assertEqual(
            told(desk, "cycle a", "cycle b", "cycle c", "cycle d"), [["0 2"], ["1 1"], ["1 1"], ["0 1"]])
        self.assertEqual(
            told(desk, "forgets a", "forgets b", "forgets c", "forgets e"), [["never"], ["never"], ["1"], ["1"]])
        self.assertEqual(told(Desk(1), "keep a none", "forgets a"), [DONE, ["0"]])

    def test_against_the_functions(self):
        rows = mixed_rows(5, 20, 8, 1) + varied_rows(5, 40, 6, 2)
        desk = Desk(5)
        where = Division(5, [[0, 4], [1, 2]])
        desk.tell("seat 0 4 | 1 2")
        for row, other in zip(rows, rows[1:]):
            told(desk, "keep a " + row_text(row), "keep b " + row_text(other))
            pairs = differ(row, other)
            wanted = "same" if pairs is None else " ".join(["differ"] + [f"{one}-{two}" for one, two in pairs])
            self.assertEqual(desk.tell("same a b"), [wanted])
            self.assertEqual(desk.tell("claim a b"), ["true" if pairs is None else "false"])
            self.assertEqual(desk.tell("meeting a 1 3"), [meeting(row, 1, 3)])
            self.assertEqual(desk.tell("far a 12345"), [division_text(far(row, where, 12345))])
            self.assertEqual(desk.tell("cycle a"), ["{} {}".format(*cycle(row))])
            rounds = forgets(row)
            self.assertEqual(desk.tell("forgets a"), ["never" if rounds is None else str(rounds)])

    def test_answers_are_lists_of_strings(self):
        for command in COMMANDS:
            answer = filled().tell(command)
            self.assertIs(type(answer), list)
            self.assertEqual({type(line) for line in answer}, {str})
            self.assertFalse(answer[0].startswith("refused"), command)

    def test_changes_of_answers_have_no_effect(self):
        desk = filled()
        before = state(desk)
        for command in ("names", "where", "row a", "back x"):
            desk.tell(command).append("z")
        self.assertEqual(state(desk), before)

    def test_rows_whose_names_are_words_of_commands(self):
        words = [command.split(" ")[0] for command in COMMANDS] + ["join", "free", "swap", "move", "none", "done"]
        for word in words:
            desk = Desk(3)
            self.assertEqual(desk.tell(f"keep {word} join 0 1"), DONE)
            self.assertEqual(desk.tell(f"row {word}"), ["join 0 1"])
            self.assertEqual(desk.tell("names"), [word])
            self.assertEqual(desk.tell(f"same {word} {word}"), ["same"])
            self.assertEqual(desk.tell(f"claim {word} {word}"), ["true"])
            self.assertEqual(desk.tell(f"meeting {word} 0 1"), ["always"])
            self.assertEqual(desk.tell(f"far {word} 2"), ["0 1 | 2"])
            self.assertEqual(desk.tell(f"call {word}"), DONE)
            self.assertEqual(desk.tell(f"keep {word} none"), DONE)
            self.assertEqual(desk.tell(f"row {word}"), ["none"])
            self.assertEqual(desk.tell(f"drop {word}"), DONE)

    def test_back_over_all_kinds_of_commands(self):
        desk = Desk(3)
        states = [state(desk)]
        for command in (
            "keep a join 0 1", "keep b swap 1 2", "seat 0 2", "call a", "claim a b", "claim b b", "keep a none",
            "call b", "seat 1 2", "call b", "drop b", "keep c free 1", "claim a c", "drop a",
        ):
            answer = desk.tell(command)
            if state(desk) != states[-1]:
                states.append(state(desk))
            self.assertFalse(answer[0].startswith("refused"))
            for other in ("names", "where", "same c c", "far a 7", "cycle a", "forgets b", "meeting a 0 1", "nothing"):
                desk.tell(other)
        self.assertEqual(len(states), 13)
        while len(states) > 1:
            self.assertEqual(desk.tell("back"), DONE)
            states.pop()
            self.assertEqual(state(desk), states[-1])
        self.assertEqual(desk.tell("back"), ["refused noback"])

    def test_two_desks_at_once(self):
        first = Desk(3)
        second = Desk(4)
        told(first, "keep a join 0 1", "call a")
        told(second, "keep b free 0", "seat 2 3")
        self.assertEqual((first.tell("names"), first.tell("where")), (["a"], ["0 1 | 2"]))
        self.assertEqual((second.tell("names"), second.tell("where")), (["b"], ["0 | 1 | 2 3"]))
        told(first, "back", "back")
        self.assertEqual((first.tell("back"), second.tell("back")), (["refused noback"], DONE))


class TestRefusals(unittest.TestCase):
    def check(self, desk, command, wanted):
        """Check that a command is refused as wanted and changes nothing."""
        before = state(desk)
        self.assertEqual(desk.tell(command), ["refused " + wanted], command)
        self.assertEqual(state(desk), before, command)

    def test_numbers_of_people(self):
        for people in (0, 17, -1):
            self.assertEqual(fault(Desk, people), ("BadCount", "people", people))

    def test_other_words(self):
        for command in (
            "", " ", "  ", "x", "Names", "NAMES", "name", "names,", "claims", "many", "help", "keep_", "_keep", "0", "none",
            "join 0 1", "wish a", "undo a", "run a",
        ):
            self.check(filled(), command, "badtext")

    def test_empty_words_and_more_or_fewer_words(self):
        for command in COMMANDS:
            desk = filled()
            words = command.split(" ")
            for at in range(len(words) + 1):
                self.check(desk, " ".join(words[:at] + [""] + words[at:]), "badtext")
            if len(words) > 1:
                self.check(desk, words[0], "badtext")
            if words[0] == "seat":
                continue
            self.check(desk, command + " 0 1", "badtext")
            self.check(desk, command + " x", "badtext")
            for many in range(len(words)):
                self.check(desk, " ".join(words[:many]), "badtext")

    def test_malformed_numbers(self):
        for word in ("00", "01", "-1", "+1", "x", "1x", "1.0", "9" * 32, "0" * 31):
            for command in (f"meeting a {word} 1", f"meeting a 1 {word}", f"far a {word}", f"keep a free {word}"):
                self.check(filled(), command, "badtext")
            self.check(filled(), f"seat 0 {word}", "badtext")

    def test_malformed_rows_and_divisions(self):
        for text in ("join 0", "free 0 1", "free 0,", "free 0,free 1", "free 0, ", "None", "none none", "free 0 , free 1"):
            self.check(filled(), "keep c " + text, "badtext")
        for text in ("0|1", "0 |", "| 0", "0 | | 1", "a", "0, 1", "none"):
            self.check(filled(), "seat " + text, "badtext")

    def test_badtext_before_everything_else(self):
        for command in (
            "keep A free", "keep c free 9, x", "seat 9 9 | x", "drop x y", "call", "row", "same x", "same x y z", "claim x",
            "meeting x 9", "meeting x 9 01", "meeting x 01 9", "far x -1", "far x 1" + "0" * 31, "cycle x y", "forgets x y",
            "back back",
        ):
            self.check(filled(), command, "badtext")
        self.check(Desk(3), "back 1", "badtext")
        self.check(filled(), "keep c " + ", ".join(["free 9"] * 61 + ["x"]), "badtext")

    def test_rows_by_name(self):
        for name in ("c", "A", "1", "abcdefghi", "a,", "!", "|"):
            for command in (
                "drop {}", "call {}", "row {}", "same {} a", "same a {}", "same {} {}", "claim {} a", "claim a {}",
                "claim {} {}", "meeting {} 0 1", "far {} 1", "cycle {}", "forgets {}",
            ):
                self.check(filled(), command.replace("{}", name), "norow")

    def test_rows_before_other_errors(self):
        self.check(filled(), "meeting c 7 8", "norow")
        self.check(filled(), "far c 1" + "0" * 29 + "1", "norow")

    def test_errors_of_keep(self):
        many = ", ".join(["free 9"] * 61)
        for name in ("A", "1", "abcdefghi", "a,", "!", "a_b"):
            self.check(filled(), f"keep {name} none", "noname")
            self.check(filled(), f"keep {name} {many}", "noname")
        desk = Desk(3)
        for letter in LETTERS:
            self.assertEqual(desk.tell(f"keep {letter} none"), DONE)
        self.check(desk, "keep i " + many, "badcount")
        self.check(desk, "keep i free 9", "badcount")
        self.check(desk, "keep a " + many, "badcount")
        self.check(desk, "keep a free 9", "noperson")
        self.check(desk, "keep a join 0 3", "noperson")
        self.assertEqual(desk.tell("keep a free 0"), DONE)

    def test_errors_of_seat(self):
        self.check(filled(), "seat 0 3", "noperson")
        self.check(filled(), "seat " + "9" * 31, "noperson")
        self.check(filled(), "seat 0 | 1 0", "twice")
        self.check(filled(), "seat 0 0 | 3", "twice")
        self.check(filled(), "seat 3 | 0 0", "noperson")

    def test_errors_of_functions(self):
        self.check(filled(), "meeting a 3 0", "noperson")
        self.check(filled(), "meeting a 0 3", "noperson")
        self.check(filled(), "far a 1" + "0" * 29 + "1", "badcount")
        self.check(filled(), "far a " + "9" * 31, "badcount")

    def test_nothing_to_undo(self):
        self.check(Desk(3), "back", "noback")

    def test_strange_strings_raise_no_error(self):
        desk = filled()
        for text in ("~", "{}", "{word}", "\\", "'", '"', "keep", "keep a", "keep a none, none", "seat", "seat |", "a" * 5000):
            self.check(desk, text, "badtext")
        for sign in map(chr, range(32, 127)):
            if sign != "%":
                for text in (sign, "row" + sign, "names" + sign, sign + "names", f"seat 0{sign}x", f"far a {sign}x"):
                    self.check(desk, text, "badtext")


class TestWholeSessions(unittest.TestCase):
    def test_texts_of_rows_are_kept_as_they_are(self):
        for people in (2, 5, 16):
            desk = Desk(people)
            for row in mixed_rows(people, 20, 60, people):
                text = row_text(row)
                desk.tell("keep a " + text)
                self.assertEqual(desk.tell("row a"), [text])
                self.assertEqual(read_row(people, desk.tell("row a")[0]), Row(people, row.commands))
