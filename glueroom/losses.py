"""What a row loses of its start, and rows that are shorter or lead back."""

from glueroom.checks import check_same_people
from glueroom.divisions import grouped, pairs_of, rooms_of
from glueroom.errors import BadCount, NoStart
from glueroom.pictures import Picture, connected, makes_difference, marked, picture, seen
from glueroom.rows import Free, Join, Move, Row, Swap, rooms_after
from glueroom.wishes import wish

MOST_COUNTED = 8


class Known:
    """The pairs of people who surely shared a room at the beginning, and who surely did not."""

    def __init__(self, together, apart):
        self.together = _sorted_pairs(together)
        self.apart = _sorted_pairs(apart)

    def __eq__(self, other):
        return isinstance(other, Known) and self.together == other.together and self.apart == other.apart


class Lost:
    """Two people of whom the end does not tell whether they shared a room at the beginning."""

    def __init__(self, one, other):
        self.one = one
        self.other = other

    def __eq__(self, other):
        return isinstance(other, Lost) and self.one == other.one and self.other == other.other


def known(row, end):
    """Return what is certain about a start that the row leads to this end."""
    check_same_people(row, end)
    start = _start_for(row, end)
    if start is None:
        raise NoStart()
    rooms = marked(row)
    together = [pair for group in start.groups if not _has_detour(rooms, group) for pair in pairs_of(group)]
    joined = connected(rooms, start.groups)
    people = list(range(row.people))
    apart = [(one, other) for one, other in pairs_of(people) if makes_difference(joined, one, other, people)]
    return Known(together, apart)


def undo(row):
    """Return a row that leads every start back to itself after the given one, or what is lost."""
    rooms = marked(row)
    people = list(range(row.people))
    for one, other in pairs_of(people):
        if not makes_difference(rooms, one, other, people):
            return Lost(one, other)
    # One person has no other start, even if the picture has a dead block.
    if row.people == 1:
        return Row(1, [])
    # Nothing is lost, so each class has one end and one start.
    turned = [(starts, ends) for ends, starts in picture(row).classes]
    return _row_with(row.people, Picture(turned, []))


def normal(row):
    """Return a short row that is the same."""
    return _row_with(row.people, seen(row))


def count_starts(row, end):
    """Return the number of divisions that the row turns into this end."""
    check_same_people(row, end)
    if row.people > MOST_COUNTED:
        raise BadCount("people", row.people)
    short = normal(row)
    return len([True for rooms in _all_rooms(row.people) if grouped(rooms_after(short, rooms)) == end.groups])


def _sorted_pairs(pairs):
    return tuple(sorted([tuple(sorted(pair)) for pair in pairs]))


def _start_for(row, end):
    """Return a start with as many groups as possible that the row leads to this end, or None."""
    rooms = rooms_of(end.people, end.groups)
    pairs = pairs_of(list(range(end.people)))
    wanted = [(one, other) for one, other in pairs if rooms[one] == rooms[other]]
    apart = [(one, other) for one, other in pairs if rooms[one] != rooms[other]]
    return wish(row, wanted, apart)


def _has_detour(rooms, group):
    """Return whether the blocks of a group can be connected while two of its people are apart.

    The group has one person of each block. A detour enters a block at one person and leaves it
    at another; it may lead through these blocks, and through dead blocks, which no end shows.
    """
    people = len(rooms) // 2
    ends = rooms[:people]
    marks = rooms[people:]
    chosen = [marks[person] for person in group]
    usable = [room for room in marks if room in chosen or room not in ends]
    return len(set(usable)) < len(usable)


def _row_with(people, shown):
    """Return a row that looks the same as the picture, everybody watched."""
    groups = [starts for _, starts in shown.classes if starts] + list(shown.dead)
    joins = [Join(group[0], person) for group in groups for person in group[1:]]
    swaps = _swaps_into(shown.classes, rooms_of(people, groups))
    frees = [Free(ends[0]) for ends, starts in shown.classes if not starts]
    moves = [Move(person, ends[0]) for ends, _ in shown.classes for person in ends[1:]]
    return Row(people, joins + swaps + frees + moves)


def _swaps_into(classes, rooms):
    """Return swaps that bring the first end of each open class into the room of its starts."""
    swaps = []
    for ends, starts in classes:
        # The number of a room is the first one who begins there; a swap never leaves a room empty.
        if starts and rooms[ends[0]] != starts[0]:
            swap = Swap(ends[0], rooms.index(starts[0]))
            rooms = swap.after(rooms)
            swaps.append(swap)
    return swaps


def _all_rooms(people):
    """Return the numbers of the rooms of every division, each division once."""
    found = [[]]
    for _ in range(people):
        # The next person goes to somebody before, or into the first room that is empty.
        found = [rooms + [room] for rooms in found for room in range(max(rooms, default=-1) + 2)]
    return found
