"""Commands, rows of commands, and what they do to a division.

Each command has two methods for this package: `named` returns the people that it
names, in the order in which they are checked, and `after` returns the numbers of
the rooms after it from those before it. The first numbers are the rooms of the
people; more may follow, for what stays in a room when the people go.
"""

from glueroom.checks import check_people, check_person, check_same_people
from glueroom.divisions import Division, grouped, rooms_of
from glueroom.errors import BadCount

MOST_COMMANDS = 60
MOST_ROUNDS = 1000


class Join:
    """The rooms of two people become one room."""

    def __init__(self, one, other):
        self.one = one
        self.other = other

    def __eq__(self, other):
        return isinstance(other, Join) and self.one == other.one and self.other == other.other

    def named(self):
        return (self.one, self.other)

    def after(self, rooms):
        kept = rooms[self.one]
        left = rooms[self.other]
        return [kept if room == left else room for room in rooms]


class Free:
    """A person goes into a new room."""

    def __init__(self, one):
        self.one = one

    def __eq__(self, other):
        return isinstance(other, Free) and self.one == other.one

    def named(self):
        return (self.one,)

    def after(self, rooms):
        changed = list(rooms)
        changed[self.one] = max(rooms) + 1
        return changed


class Swap:
    """Two people exchange their rooms."""

    def __init__(self, one, other):
        self.one = one
        self.other = other

    def __eq__(self, other):
        return isinstance(other, Swap) and self.one == other.one and self.other == other.other

    def named(self):
        return (self.one, self.other)

    def after(self, rooms):
        changed = list(rooms)
        changed[self.one] = rooms[self.other]
        changed[self.other] = rooms[self.one]
        return changed


class Move:
    """A person goes into the room of another one."""

    def __init__(self, one, other):
        self.one = one
        self.other = other

    def __eq__(self, other):
        return isinstance(other, Move) and self.one == other.one and self.other == other.other

    def named(self):
        return (self.one, self.other)

    def after(self, rooms):
        changed = list(rooms)
        changed[self.one] = rooms[self.other]
        return changed


class Row:
    """A sequence of commands for a number of people."""

    def __init__(self, people, commands):
        check_people(people)
        _check_commands(people, commands)
        self.people = people
        self.commands = tuple(commands)

    def __eq__(self, other):
        return isinstance(other, Row) and self.people == other.people and self.commands == other.commands


def run(row, start, *, rounds=1):
    """Return the division after the row has been done so many times."""
    check_same_people(row, start)
    if not 0 <= rounds <= MOST_ROUNDS:
        raise BadCount("rounds", rounds)
    rooms = rooms_of(start.people, start.groups)
    for _ in range(rounds):
        rooms = rooms_after(row, rooms)
    return Division(start.people, grouped(rooms))


def rooms_after(row, rooms):
    """Return the numbers of the rooms after the row's commands."""
    for command in row.commands:
        rooms = command.after(rooms)
    return rooms


def _check_commands(people, commands):
    """Raise an error for too many commands or for the first person who does not exist."""
    if len(commands) > MOST_COMMANDS:
        raise BadCount("commands", len(commands))
    for command in commands:
        for person in command.named():
            check_person(people, person)
