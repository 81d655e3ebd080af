"""Divisions and rows as texts."""

from glueroom.divisions import Division
from glueroom.errors import BadText
from glueroom.rows import Free, Join, Move, Row, Swap

BETWEEN_GROUPS = " | "
BETWEEN_COMMANDS = ", "
NO_COMMANDS = "none"
MOST_DIGITS = 31


def division_text(division):
    """Return the text of a division."""
    return BETWEEN_GROUPS.join([" ".join([str(person) for person in group]) for group in division.groups])


def read_division(people, text):
    """Return the division that a text tells."""
    return Division(people, read_groups(text))


def read_groups(text):
    """Return the groups that a text tells, whether or not the people exist."""
    groups = []
    for place, part in enumerate(text.split(BETWEEN_GROUPS)):
        words = part.split(" ")
        if not _are_numbers(words):
            raise BadText(place)
        groups.append([int(word) for word in words])
    return groups


def row_text(row):
    """Return the text of a row."""
    if not row.commands:
        return NO_COMMANDS
    return BETWEEN_COMMANDS.join([_command_text(command) for command in row.commands])


def read_row(people, text):
    """Return the row that a text tells."""
    return Row(people, read_commands(text))


def read_commands(text):
    """Return the commands that a text tells, whether or not the people exist."""
    if text == NO_COMMANDS:
        return []
    commands = []
    for place, part in enumerate(text.split(BETWEEN_COMMANDS)):
        command = _read_command(part)
        if command is None:
            raise BadText(place)
        commands.append(command)
    return commands


def is_number(word):
    """Return whether a word is a number without leading zeros and not too long."""
    return word.isdigit() and len(word) <= MOST_DIGITS and (word == "0" or word[0] != "0")


def _are_numbers(words):
    return all([is_number(word) for word in words])


def _command_text(command):
    """Return the text of a command, whose word is the name of its class in lowercase letters."""
    return " ".join([command.__class__.__name__.lower()] + [str(person) for person in command.named()])


def _read_command(text):
    """Return the command that a text tells, or None."""
    word, *rest = text.split(" ")
    if not _are_numbers(rest):
        return None
    people = [int(number) for number in rest]
    if len(people) == 1 and word == "free":
        return Free(people[0])
    if len(people) == 2:
        return _paired_command(word, people[0], people[1])
    return None


def _paired_command(word, one, other):
    """Return the command for two people that a word tells, or None."""
    if word == "join":
        return Join(one, other)
    if word == "swap":
        return Swap(one, other)
    if word == "move":
        return Move(one, other)
    return None
