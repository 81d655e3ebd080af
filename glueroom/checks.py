"""The checks that several modules share."""

from glueroom.errors import BadCount, NoPerson, OtherCount

MOST_PEOPLE = 16


def check_people(people):
    """Raise an error unless so many people can be divided."""
    if not 1 <= people <= MOST_PEOPLE:
        raise BadCount("people", people)


def check_person(people, person):
    """Raise an error unless the person is one of so many people."""
    if not 0 <= person < people:
        raise NoPerson(person)


def check_pairs(people, pairs):
    """Raise an error for the first person in the pairs who does not exist."""
    for pair in pairs:
        for person in pair:
            check_person(people, person)


def watched_people(people, watched):
    """Return a list of who is watched; raise an error for the first who does not exist."""
    if watched is None:
        return list(range(people))
    for person in watched:
        check_person(people, person)
    return list(watched)


def check_same_people(first, second):
    """Raise an error unless two things, such as a row and a division, have equally many people."""
    if first.people != second.people:
        raise OtherCount()
