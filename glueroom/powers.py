"""Rows that are done one after the other, and rows that are done again and again."""

from glueroom.checks import check_same_people
from glueroom.divisions import Division
from glueroom.errors import BadCount
from glueroom.pictures import connected, marked, parted, picture_of, tellable, untouched
from glueroom.rows import Join, rooms_after

MOST_POWER = 10 ** 30


def glued(first, second):
    """Return the picture of doing two rows, one after the other."""
    check_same_people(first, second)
    return picture_of(rooms_after(second, marked(first)))


def power(row, rounds):
    """Return the picture of doing a row so many times."""
    _check_rounds(rounds)
    return picture_of(_repeated(row, rounds))


def far(row, start, rounds):
    """Return the division after so many rounds."""
    check_same_people(row, start)
    _check_rounds(rounds)
    rooms = connected(_repeated(row, rounds), start.groups)
    return Division(row.people, parted(rooms, list(range(row.people))))


def cycle(row):
    """Return from which round on what is seen repeats, and the period."""
    found = _seen_by_rounds(row)
    tail = found.index(found[-1])
    return (tail, len(found) - 1 - tail)


def forgets(row):
    """Return after how many rounds the start has no influence any more, or None."""
    for rounds, shown in enumerate(_seen_by_rounds(row)):
        # What is seen has starts exactly if more than one class is open.
        if not any([starts for _, starts in shown.classes]):
            return rounds
    return None


def _check_rounds(rounds):
    if not 0 <= rounds <= MOST_POWER:
        raise BadCount("rounds", rounds)


def _repeated(row, rounds):
    """Return the marked rooms after so many rounds."""
    rooms = untouched(row.people)
    doubled = marked(row)
    # There may be too many rounds to do them one by one: double the row instead.
    while rounds > 0:
        if rounds % 2 == 1:
            rooms = _followed(rooms, doubled)
        doubled = _followed(doubled, doubled)
        rounds = rounds // 2
    return rooms


def _followed(first, second):
    """Return the marked rooms after two rows, from those after each of them."""
    many = len(first)
    people = many // 2
    fresh = max(first) + 1
    rooms = first + [room + fresh for room in second]
    for person in range(people):
        # The second row begins where the first one ends.
        rooms = Join(person, many + people + person).after(rooms)
    return rooms[many:many + people] + rooms[people:many]


def _seen_by_rounds(row):
    """Return what is seen after 0, 1, 2 and so on rounds; only the last one was there before."""
    rooms = untouched(row.people)
    found = []
    shown = tellable(picture_of(rooms))
    while shown not in found:
        found.append(shown)
        rooms = rooms_after(row, rooms)
        shown = tellable(picture_of(rooms))
    return found + [shown]
