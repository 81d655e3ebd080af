"""A book that keeps rows by name, one current division, and claims, and undoes changes."""

from glueroom.checks import check_same_people
from glueroom.divisions import alone
from glueroom.errors import BadCount, NoBack, NoName, NoRow
from glueroom.pictures import same
from glueroom.rows import Row, run

MOST_ROWS = 8
LONGEST_NAME = 8
LETTERS = "abcdefghijklmnopqrstuvwxyz"
DIGITS = "0123456789"


class Book:
    """Rows by name, one current division, and claims that two rows are the same or not."""

    def __init__(self, people):
        self.people = people
        self._where = alone(people)
        self._rows = {}
        self._claims = {}
        self._before = []

    def keep(self, name, commands):
        """Store a row under a name."""
        _check_name(name)
        if name not in self._rows and len(self._rows) >= MOST_ROWS:
            raise BadCount("rows", len(self._rows) + 1)
        row = Row(self.people, commands)
        if self._rows.get(name) != row:
            self._change({**self._rows, name: row}, self._where, self._claims_without(name))

    def drop(self, name):
        """Remove a row."""
        self._check_used(name)
        rows = {kept: row for kept, row in self._rows.items() if kept != name}
        self._change(rows, self._where, self._claims_without(name))

    def row(self, name):
        """Return a row."""
        self._check_used(name)
        return self._rows[name]

    def names(self):
        """Return all names in ascending order."""
        return sorted(self._rows)

    def seat(self, division):
        """Set the current division."""
        check_same_people(self, division)
        if division != self._where:
            self._change(self._rows, division, self._claims)

    def where(self):
        """Return the current division."""
        return self._where

    def call(self, name):
        """Do a row in the current division."""
        self.seat(run(self.row(name), self._where))

    def claim(self, name, other):
        """Return whether two rows are the same, and store the result."""
        result = same(self.row(name), self.row(other))
        pair = (min(name, other), max(name, other))
        if pair not in self._claims:
            self._change(self._rows, self._where, {**self._claims, pair: result})
        return result

    def claims(self):
        """Return the claims in ascending order, each as its two names and the result."""
        return sorted([(name, other, result) for (name, other), result in self._claims.items()])

    def many(self):
        """Return the number of changes that can be undone."""
        return len(self._before)

    def back(self):
        """Undo the last change."""
        if not self._before:
            raise NoBack()
        self._rows, self._where, self._claims = self._before.pop()

    def _change(self, rows, where, claims):
        # The dicts are never changed but replaced, so those of the state before stay as they are.
        self._before.append((self._rows, self._where, self._claims))
        self._rows = rows
        self._where = where
        self._claims = claims

    def _check_used(self, name):
        if name not in self._rows:
            raise NoRow(name)

    def _claims_without(self, name):
        return {pair: result for pair, result in self._claims.items() if name not in pair}


def _check_name(name):
    """Raise an error unless the name is valid."""
    if not 1 <= len(name) <= LONGEST_NAME or name[0] not in LETTERS:
        raise NoName(name)
    if not all([sign in LETTERS + DIGITS for sign in name]):
        raise NoName(name)
