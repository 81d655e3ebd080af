"""Finding out what a hidden row does, from the ends that it leads to.

A start is told by the pairs of people who share a room in it. The start without pairs
shows the classes. Then pairs are put together one by one until a pair joins two classes:
these two people begin in two open classes, and they guide through the rest. Whoever joins
classes with one of the guides begins in an open class, too. Two of the others begin in one
dead block exactly if the guides' classes are joined when one of them shares a room with the
first guide, and the other one with the second.
"""

from glueroom.checks import check_same_people
from glueroom.divisions import Division, alone, pairs_of
from glueroom.errors import NoAnswer, NoQuestion
from glueroom.pictures import Picture, tellable


class Finder:
    """Asks for the ends of a hidden row until they tell all that is seen of it."""

    def __init__(self, people):
        self.people = people
        # One person always ends in one class, so no answer is needed.
        self._classes = alone(people).groups
        # The classes that are joined by each start that was asked, by its pairs.
        self._joined = {}
        self._asking = _next_pairs(people, self._classes, self._joined)

    def question(self):
        """Return the division from which the hidden row shall be run, or None."""
        return None if self._asking is None else Division(self.people, self._asking)

    def hear(self, end):
        """Take the division to which the hidden row leads from the one in question."""
        if self._asking is None:
            raise NoQuestion()
        check_same_people(self, end)
        if self._asking == ():
            self._classes = end.groups
        self._joined[self._asking] = [ends for ends in self._classes if ends not in end.groups]
        self._asking = _next_pairs(self.people, self._classes, self._joined)

    def asked(self):
        """Return the number of answers so far."""
        return len(self._joined)

    def found(self):
        """Return what is seen of the hidden row."""
        if self._asking is not None:
            raise NoAnswer()
        guides = _guides(self.people, self._joined)
        if guides is None:
            return Picture([(ends, ()) for ends in self._classes], [])
        classes = _classes_with_starts(self.people, self._classes, self._joined, guides)
        # The names of two open classes may be exchanged here: nobody can tell them apart.
        return tellable(Picture(classes, _dead_blocks(self.people, self._joined, guides)))


def _next_pairs(people, classes, joined):
    """Return the pairs of the start to be asked next, or None."""
    for pairs in _useful_starts(people, classes, joined):
        if pairs not in joined:
            return pairs
    return None


def _useful_starts(people, classes, joined):
    """Return the pairs of the starts that are of use, in the order in which to ask them.

    What was not asked counts as joining nothing. So the list may be wrong behind the first start
    that was not asked, but it is right up to there.
    """
    if len(classes) == 1:
        return []
    guides = _guides(people, joined)
    if guides is None:
        return [()] + _one_pair_starts(people)
    return _starts_with_a_guide(people, joined, guides) + _starts_with_both_guides(people, joined, guides)


def _one_pair_starts(people):
    return [((one, other),) for other in range(people) for one in range(other)]


def _one_pair(one, other):
    return ((min(one, other), max(one, other)),)


def _guides(people, joined):
    """Return the first pair that joins two classes, or None."""
    for pairs in _one_pair_starts(people):
        if joined.get(pairs):
            return pairs[0]
    return None


def _starts_with_a_guide(people, joined, guides):
    """Return the starts that tell in which open class each person begins, if in any."""
    first, second = guides
    starts = []
    for person in range(people):
        if person not in guides:
            starts.append(_one_pair(person, first))
            if not joined.get(_one_pair(person, first)):
                starts.append(_one_pair(person, second))
    return starts


def _dead_blocks(people, joined, guides):
    """Return the groups of those who begin in one dead block, each in ascending order."""
    blocks = []
    for person in range(people):
        if person not in guides and not any([joined.get(_one_pair(person, guide)) for guide in guides]):
            own = [block for block in blocks if joined.get(_both_pairs(guides, block[0], person))]
            if own:
                own[0].append(person)
            else:
                blocks.append([person])
    return blocks


def _both_pairs(guides, one, other):
    """Return the pairs of the start in which each of two people shares a room with a guide."""
    first, second = guides
    return ((one, first), (other, second))


def _starts_with_both_guides(people, joined, guides):
    """Return the starts that compare the first ones of the dead blocks with each other."""
    firsts = [block[0] for block in _dead_blocks(people, joined, guides)]
    return [_both_pairs(guides, one, other) for one, other in pairs_of(firsts)]


def _classes_with_starts(people, classes, joined, guides):
    """Return the classes as pairs of ends and starts."""
    first, second = guides
    home = _home(people, joined, first)
    starts = {ends: [] for ends in classes}
    starts[home].append(first)
    for person in range(people):
        if person != first:
            away = [ends for ends in joined.get(_one_pair(person, first), []) if ends != home]
            if away:
                starts[away[0]].append(person)
            elif joined.get(_one_pair(person, second)):
                starts[home].append(person)
    return list(starts.items())


def _home(people, joined, guide):
    """Return the class in which a guide begins: it takes part whenever the guide joins classes."""
    told = [joined[_one_pair(person, guide)] for person in range(people) if joined.get(_one_pair(person, guide))]
    return [ends for ends in told[0] if all([ends in both for both in told])][0]
