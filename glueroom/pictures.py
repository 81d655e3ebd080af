"""Pictures of rows: which starts and ends a row connects.

While this package works with a picture, it is a list of marked rooms. Everybody begins
alone, and a mark lies in each person's first room and stays there when the person goes.
The first half of the list are the numbers of the rooms of the people, the second half
those of the rooms of their marks. A start in which people share a room joins the rooms
of their marks, and it makes no difference that this is done after the row.
"""

from glueroom.checks import check_same_people, watched_people
from glueroom.divisions import grouped
from glueroom.rows import Join, rooms_after


class Picture:
    """The classes, as pairs of ends and starts, and the dead blocks of a row."""

    def __init__(self, classes, dead):
        self.classes = tuple(sorted([(_ascending(ends), _ascending(starts)) for ends, starts in classes]))
        self.dead = tuple(sorted([_ascending(group) for group in dead]))

    def __eq__(self, other):
        return isinstance(other, Picture) and self.classes == other.classes and self.dead == other.dead


def picture(row):
    """Return the picture of a row."""
    return picture_of(marked(row))


def seen(row, *, watched=None):
    """Return what the ends of the watched people can tell about a row, as a picture."""
    return tellable(_narrowed(picture(row), watched_people(row.people, watched)))


def same(row, other, *, watched=None):
    """Return whether two rows look the same from every start, by the ends of the watched people."""
    check_same_people(row, other)
    return seen(row, watched=watched) == seen(other, watched=watched)


def untouched(people):
    """Return the marked rooms before any command."""
    return list(range(people)) + list(range(people))


def marked(row):
    """Return the marked rooms after a row."""
    return rooms_after(row, untouched(row.people))


def connected(rooms, groups):
    """Return the marked rooms for the start in which the people of each group share a room."""
    people = len(rooms) // 2
    for group in groups:
        for person in group[1:]:
            rooms = Join(people + group[0], people + person).after(rooms)
    return rooms


def parted(rooms, watched):
    """Return how the watched people are divided, by their places in the sequence of them."""
    return grouped([rooms[person] for person in watched])


def makes_difference(rooms, one, other, watched):
    """Return whether the watched end differently if two people share a room at the beginning, too."""
    people = len(rooms) // 2
    here = rooms[people + one]
    there = rooms[people + other]
    left = [rooms[person] for person in watched]
    return here != there and here in left and there in left


def picture_of(rooms):
    """Return the picture that the marked rooms make."""
    people = len(rooms) // 2
    classes = []
    dead = []
    for group in grouped(rooms):
        ends = [place for place in group if place < people]
        starts = [place - people for place in group if place >= people]
        if ends:
            classes.append((ends, starts))
        else:
            dead.append(starts)
    return Picture(classes, dead)


def tellable(shown):
    """Return the picture without what no start can show."""
    started = [starts for ends, starts in shown.classes if starts]
    if len(started) <= 1:
        return Picture([(ends, ()) for ends, starts in shown.classes], [])
    if len(started) == 2:
        return _with_sorted_starts(shown, started)
    return shown


def _ascending(people):
    return tuple(sorted(people))


def _narrowed(shown, watched):
    """Return the picture without the ends that are not watched."""
    classes = []
    dead = list(shown.dead)
    for ends, starts in shown.classes:
        left = [person for person in ends if person in watched]
        if left:
            classes.append((left, starts))
        elif starts:
            dead.append(starts)
    return Picture(classes, dead)


def _with_sorted_starts(shown, started):
    """Return the picture with the starts of its open classes given out by their smallest person."""
    waiting = sorted(started)
    classes = []
    for ends, starts in shown.classes:
        classes.append((ends, waiting.pop(0) if starts else ()))
    return Picture(classes, shown.dead)
