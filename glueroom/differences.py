"""Starts that show a difference between two rows."""

from glueroom.checks import check_pairs, check_same_people, watched_people
from glueroom.divisions import pairs_of
from glueroom.pictures import connected, marked, parted, same


def differ(row, other, *, watched=None):
    """Return the smallest pairs that show a difference between two rows, or None."""
    if same(row, other, watched=watched):
        return None
    people = watched_people(row.people, watched)
    first = marked(row)
    second = marked(other)
    # Two pairs always suffice where rows differ, so the loop finds some.
    for pairs in few_pairs(row.people):
        if _part_differently(first, second, pairs, people):
            return pairs


def is_difference(row, other, pairs, *, watched=None):
    """Return whether a start with these pairs shows a difference between two rows."""
    check_same_people(row, other)
    people = watched_people(row.people, watched)
    check_pairs(row.people, pairs)
    return _part_differently(marked(row), marked(other), pairs, people)


def few_pairs(people):
    """Return all tuples of at most two pairs of people: those with fewer pairs first, then the smallest."""
    pairs = pairs_of(list(range(people)))
    return [()] + [(pair,) for pair in pairs] + pairs_of(pairs)


def _part_differently(first, second, pairs, watched):
    """Return whether the watched people are divided differently after two rows."""
    return parted(connected(first, pairs), watched) != parted(connected(second, pairs), watched)
