"""A desk that takes commands as strings and answers them from a book."""

from glueroom.book import Book
from glueroom.differences import differ
from glueroom.divisions import Division
from glueroom.errors import BadText, RoomError
from glueroom.powers import cycle, far, forgets
from glueroom.roomtexts import division_text, is_number, read_commands, read_groups, row_text
from glueroom.wishes import meeting

DONE = "done"

# What follows the first word of each command.
KINDS = {
    "keep": ("name", "commands"),
    "drop": ("name",),
    "seat": ("groups",),
    "call": ("name",),
    "back": (),
    "row": ("name",),
    "names": (),
    "where": (),
    "same": ("name", "name"),
    "claim": ("name", "name"),
    "meeting": ("name", "number", "number"),
    "far": ("name", "number"),
    "cycle": ("name",),
    "forgets": ("name",),
}

# The kinds that are texts of several words.
LONG_KINDS = ("commands", "groups")


def _keep(book, name, commands):
    book.keep(name, commands)
    return [DONE]


def _drop(book, name):
    book.drop(name)
    return [DONE]


def _seat(book, groups):
    book.seat(Division(book.people, groups))
    return [DONE]


def _call(book, name):
    book.call(name)
    return [DONE]


def _back(book):
    book.back()
    return [DONE]


def _row(book, name):
    return [row_text(book.row(name))]


def _names(book):
    return book.names()


def _where(book):
    return [division_text(book.where())]


def _same(book, name, other):
    pairs = differ(book.row(name), book.row(other))
    if pairs is None:
        return ["same"]
    return [" ".join(["differ"] + [f"{low}-{high}" for low, high in pairs])]


def _claim(book, name, other):
    return ["true" if book.claim(name, other) else "false"]


def _meeting(book, name, one, other):
    return [meeting(book.row(name), one, other)]


def _far(book, name, rounds):
    return [division_text(far(book.row(name), book.where(), rounds))]


def _cycle(book, name):
    tail, ring = cycle(book.row(name))
    return [f"{tail} {ring}"]


def _forgets(book, name):
    rounds = forgets(book.row(name))
    return ["never" if rounds is None else str(rounds)]


ACTIONS = {
    "keep": _keep,
    "drop": _drop,
    "seat": _seat,
    "call": _call,
    "back": _back,
    "row": _row,
    "names": _names,
    "where": _where,
    "same": _same,
    "claim": _claim,
    "meeting": _meeting,
    "far": _far,
    "cycle": _cycle,
    "forgets": _forgets,
}


class Desk:
    """A book that is kept by commands in words."""

    def __init__(self, people):
        self.book = Book(people)

    def tell(self, row):
        """Do a command and return the answer to it."""
        try:
            return _answer(self.book, row)
        except RoomError as refusal:
            return [refusal.told()]


def _answer(book, text):
    word, *parts = text.split(" ")
    values = _values(word, parts)
    action = ACTIONS[word]
    return action(book, *values)


def _values(word, parts):
    """Return what the parts behind the first word of a command tell."""
    # The answer does not show the place, so none is counted in the errors of this module.
    if word not in KINDS:
        raise BadText(0)
    kinds = KINDS[word]
    if kinds and kinds[-1] in LONG_KINDS:
        before = len(kinds) - 1
        parts = parts[:before] + [" ".join(parts[before:])]
    if len(parts) != len(kinds):
        raise BadText(0)
    return [_value(kind, part) for kind, part in zip(kinds, parts)]


def _value(kind, part):
    if kind == "commands":
        return read_commands(part)
    if kind == "groups":
        return read_groups(part)
    if kind == "number" and is_number(part):
        return int(part)
    if kind == "name" and part != "":
        return part
    raise BadText(0)
