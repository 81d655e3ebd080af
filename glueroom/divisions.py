"""Divisions of people among rooms."""

from glueroom.checks import check_people, check_person
from glueroom.errors import BadCount, Twice


class Division:
    """People who are divided among rooms."""

    def __init__(self, people, groups):
        check_people(people)
        _check_groups(people, groups)
        self.people = people
        self.groups = grouped(rooms_of(people, groups))

    def __eq__(self, other):
        return isinstance(other, Division) and self.people == other.people and self.groups == other.groups


def alone(people):
    """Return the division in which everybody is alone."""
    return Division(people, [])


def together(division, one, other):
    """Return whether two people share a room."""
    check_person(division.people, one)
    check_person(division.people, other)
    return any([one in group and other in group for group in division.groups])


def rooms_of(people, groups):
    """Return the number of each person's room."""
    rooms = list(range(people))
    for group in groups:
        for person in group:
            rooms[person] = group[0]
    return rooms


def grouped(rooms):
    """Return the groups of those who share a room, from the number of each one's room."""
    found = {}
    for person, room in enumerate(rooms):
        found.setdefault(room, []).append(person)
    return tuple([tuple(group) for group in found.values()])


def pairs_of(ascending):
    """Return the pairs of an ascending list as a list: each is ascending, and so is the list."""
    return [(one, other) for one in ascending for other in ascending if one < other]


def _check_groups(people, groups):
    """Raise the error for the first fault in the groups."""
    met = {}
    for group in groups:
        if len(group) == 0:
            raise BadCount("group", 0)
        for person in group:
            check_person(people, person)
            if person in met:
                raise Twice(person)
            met[person] = True
