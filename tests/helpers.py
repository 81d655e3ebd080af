"""What several tests share. Nothing here uses how the package works inside."""

import itertools
import random

from glueroom.divisions import Division
from glueroom.rows import Free, Join, Move, Row, Swap


def fault(action, *given, **named):
    """Return the name of the error that a call raises, and its fields in order."""
    try:
        action(*given, **named)
    except ValueError as error:
        return (type(error).__name__, *vars(error).values())
    raise AssertionError("no error was raised")


def all_groups(people):
    """Return the groups of every division of the people."""
    found = [[]]
    for person in range(people):
        wider = []
        for groups in found:
            wider.append(groups + [[person]])
            for at, group in enumerate(groups):
                wider.append(groups[:at] + [group + [person]] + groups[at + 1:])
        found = wider
    return found


def all_starts(people):
    return [Division(people, groups) for groups in all_groups(people)]


def all_commands(people):
    """Return every command of the people, also those with the same person twice."""
    pairs = list(itertools.product(range(people), repeat=2))
    commands = [Free(one) for one in range(people)]
    for one, other in pairs:
        commands += [Join(one, other), Swap(one, other), Move(one, other)]
    return commands


def short_rows(people, most):
    """Return every row of at most so many commands."""
    commands = all_commands(people)
    return [
        Row(people, chosen)
        for many in range(most + 1)
        for chosen in itertools.product(commands, repeat=many)
    ]


def mixed_rows(people, many, most, seed):
    """Return rows of up to so many commands, the same ones each time."""
    chance = random.Random(seed)
    commands = all_commands(people)
    return [
        Row(people, [chance.choice(commands) for _ in range(chance.randint(0, most))])
        for _ in range(many)
    ]


def varied_rows(people, many, most, seed):
    """Return rows like mixed_rows, but each with some kinds of commands only: they lose less of the start."""
    chance = random.Random(seed)
    rows = []
    for _ in range(many):
        kinds = chance.sample([Join, Free, Swap, Move], chance.randint(1, 4))
        commands = [command for command in all_commands(people) if type(command) in kinds]
        rows.append(Row(people, [chance.choice(commands) for _ in range(chance.randint(0, most))]))
    return rows


def mixed_pairs(people, many, seed):
    """Return pairs of people, as tuples and lists, also of equal people."""
    chance = random.Random(seed)
    return [chance.choice((list, tuple))(chance.choices(range(people), k=2)) for _ in range(many)]


def start_with(people, pairs):
    """Return the start in which everybody is alone, but for these pairs."""
    rooms = [{person} for person in range(people)]
    for pair in pairs:
        touched = [room for room in rooms if room & set(pair)]
        rooms = [room for room in rooms if room not in touched] + [set().union(*touched)]
    return Division(people, ordered(rooms))


def few_tuples(people):
    """Return all tuples of at most two pairs, fewer pairs first, then in ascending order."""
    pairs = list(itertools.combinations(range(people), 2))
    return [chosen for many in (0, 1, 2) for chosen in itertools.combinations(pairs, many)]


def all_watched(people):
    """Return every set of people, as a tuple."""
    return [chosen for many in range(people + 1) for chosen in itertools.combinations(range(people), many)]


def ordered(rooms):
    """Return the rooms that are not empty as groups of a division are ordered."""
    return tuple(sorted(tuple(sorted(room)) for room in rooms if room))


def walk(row, start, rounds=1):
    """Return the groups after the row, by moving people between sets."""
    rooms = [set(group) for group in start.groups]
    for _ in range(rounds):
        for command in row.commands:
            rooms = step(command, rooms)
    return ordered(rooms)


def step(command, rooms):
    def room_of(person):
        return next(room for room in rooms if person in room)

    one = command.one
    mine = room_of(one)
    if isinstance(command, Free):
        mine.discard(one)
        return rooms + [{one}]
    other = command.other
    yours = room_of(other)
    if mine is yours:
        return rooms
    if isinstance(command, Join):
        return [room for room in rooms if room is not mine and room is not yours] + [mine | yours]
    mine.discard(one)
    yours.add(one)
    if isinstance(command, Swap):
        yours.discard(other)
        mine.add(other)
    return rooms


def parts(shown):
    return (shown.classes, shown.dead)


def told_by_steps(shown, watched):
    """Return the parts of a picture after the three steps of point [7], word by word."""
    classes = [([end for end in found if end in watched], list(starts)) for found, starts in shown.classes]
    dead = list(shown.dead) + [tuple(starts) for found, starts in classes if not found and starts]
    classes = [pair for pair in classes if pair[0]]
    begun = [pair for pair in classes if pair[1]]
    if len(begun) <= 1:
        classes = [(found, []) for found, _ in classes]
        dead = []
    if len(begun) == 2:
        first, second = sorted(begun, key=lambda pair: min(pair[0]))
        low, high = sorted([first[1], second[1]], key=min)
        closed = [pair for pair in classes if not pair[1]]
        classes = closed + [(first[0], low), (second[0], high)]
    pairs = sorted((tuple(sorted(found)), tuple(sorted(starts))) for found, starts in classes)
    return (tuple(pairs), tuple(sorted(dead)))


def view(groups, watched):
    """Return how the watched people are divided by the groups."""
    return ordered([set(group) & set(watched) for group in groups])
