"""Questions about the ends of a row: who meets, from which start, and which starts matter."""

from glueroom.checks import check_pairs, check_person, watched_people
from glueroom.differences import few_pairs
from glueroom.divisions import Division
from glueroom.pictures import connected, makes_difference, marked, parted, untouched
from glueroom.rows import Join


def meeting(row, one, other):
    """Return whether two people end together "always", "never" or "sometimes"."""
    check_person(row.people, one)
    check_person(row.people, other)
    rooms = marked(row)
    if rooms[one] == rooms[other]:
        return "always"
    if _beginner(rooms, one) is None or _beginner(rooms, other) is None:
        return "never"
    return "sometimes"


def wish(row, wanted, apart):
    """Return a start with as many groups as possible that fits the wishes for the end, or None."""
    check_pairs(row.people, wanted)
    check_pairs(row.people, apart)
    rooms = marked(row)
    pairs = []
    for one, other in wanted:
        if rooms[one] != rooms[other]:
            pair = (_beginner(rooms, one), _beginner(rooms, other))
            if None in pair:
                return None
            pairs.append(pair)
            rooms = Join(one, other).after(rooms)
    # Every start that fits joins at least these rooms, so nobody can be parted again.
    if any([rooms[one] == rooms[other] for one, other in apart]):
        return None
    return _start_with(row.people, pairs)


def matters(row, one, other, *, watched=None):
    """Return the smallest surroundings in which it matters that two people share a room, or None."""
    check_person(row.people, one)
    check_person(row.people, other)
    people = watched_people(row.people, watched)
    rooms = marked(row)
    if not _can_matter(rooms, one, other, people):
        return None
    # Two pairs always suffice where it can matter, so the loop finds some.
    for pairs in few_pairs(row.people):
        if makes_difference(connected(rooms, pairs), one, other, people):
            return pairs


def _beginner(rooms, person):
    """Return the first one who begins where the person ends, or None."""
    people = len(rooms) // 2
    begun = [place for place in range(people) if rooms[people + place] == rooms[person]]
    return begun[0] if begun else None


def _start_with(people, pairs):
    """Return the start in which the people of each pair share a room."""
    rooms = connected(untouched(people), pairs)
    return Division(people, parted(rooms, list(range(people))))


def _can_matter(rooms, one, other, watched):
    """Return whether there are surroundings in which it matters that two people share a room.

    It never matters for two people whose blocks are the same. Two other blocks can be connected
    with two different classes, if two classes are open and have ends that are watched.
    """
    people = len(rooms) // 2
    marks = rooms[people:]
    open_rooms = {rooms[person] for person in watched if rooms[person] in marks}
    return marks[one] != marks[other] and len(open_rooms) >= 2
