"""Pictures of rows: which starts and ends a row connects."""

from glueroom.checks import check_person, check_same_people
from glueroom.divisions import grouped
from glueroom.rows import rooms_after


class Picture:
    """The classes, as pairs of ends and starts, and the dead blocks of a row."""

    def __init__(self, classes, dead):
        self.classes = tuple(sorted([(_ascending(ends), _ascending(starts)) for ends, starts in classes]))
        self.dead = tuple(sorted([_ascending(group) for group in dead]))

    def __eq__(self, other):
        return isinstance(other, Picture) and self.classes == other.classes and self.dead == other.dead


def picture(row):
    """Return the picture of a row."""
    blocks = _blocks(row)
    classes = [(ends, starts) for ends, starts in blocks if ends]
    dead = [starts for ends, starts in blocks if not ends]
    return Picture(classes, dead)


def seen(row, *, watched=None):
    """Return what the ends of the watched people can tell about a row, as a picture."""
    shown = picture(row)
    if watched is not None:
        for person in watched:
            check_person(row.people, person)
        shown = _narrowed(shown, watched)
    return _tellable(shown)


def same(row, other, *, watched=None):
    """Return whether two rows look the same from every start, by the ends of the watched people."""
    check_same_people(row, other)
    return seen(row, watched=watched) == seen(other, watched=watched)


def _ascending(people):
    return tuple(sorted(people))


def _blocks(row):
    """Return the ends and the starts of each block that has any."""
    people = row.people
    # The second half are marks: each stays in the room in which its person begins.
    rooms = rooms_after(row, list(range(people)) + list(range(people)))
    blocks = []
    for group in grouped(rooms):
        ends = [place for place in group if place < people]
        starts = [place - people for place in group if place >= people]
        blocks.append((ends, starts))
    return blocks


def _narrowed(shown, watched):
    """Return the picture without the ends that are not watched."""
    classes = []
    dead = list(shown.dead)
    for ends, starts in shown.classes:
        left = [person for person in ends if person in watched]
        if left:
            classes.append((left, starts))
        elif starts:
            dead.append(starts)
    return Picture(classes, dead)


def _tellable(shown):
    """Return the picture without what no start can show."""
    started = [starts for ends, starts in shown.classes if starts]
    if len(started) <= 1:
        return Picture([(ends, ()) for ends, starts in shown.classes], [])
    if len(started) == 2:
        return _with_sorted_starts(shown, started)
    return shown


def _with_sorted_starts(shown, started):
    """Return the picture with the starts of its open classes given out by their smallest person."""
    waiting = sorted(started)
    classes = []
    for ends, starts in shown.classes:
        classes.append((ends, waiting.pop(0) if starts else ()))
    return Picture(classes, shown.dead)
