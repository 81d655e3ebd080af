"""The errors of the package."""


class RoomError(ValueError):
    """The base of all errors of the package."""


class BadCount(RoomError):
    """There are too few or too many of something."""

    def __init__(self, what, count):
        self.what = what
        self.count = count

    def told(self):
        return "refused badcount"


class NoPerson(RoomError):
    """A person does not exist."""

    def __init__(self, person):
        self.person = person

    def told(self):
        return "refused noperson"


class Twice(RoomError):
    """A person occurs a second time."""

    def __init__(self, person):
        self.person = person

    def told(self):
        return "refused twice"


class OtherCount(RoomError):
    """Two numbers of people differ."""

    def told(self):
        return "refused othercount"


class NoStart(RoomError):
    """No start leads to an end."""

    def told(self):
        return "refused nostart"


class NoQuestion(RoomError):
    """An answer comes without a question."""

    def told(self):
        return "refused noquestion"


class NoAnswer(RoomError):
    """A question has not been answered yet."""

    def told(self):
        return "refused noanswer"


class NoName(RoomError):
    """A text is not a valid name."""

    def __init__(self, name):
        self.name = name

    def told(self):
        return "refused noname"


class NoRow(RoomError):
    """No row has the name."""

    def __init__(self, name):
        self.name = name

    def told(self):
        return "refused norow"


class NoBack(RoomError):
    """There is nothing to undo."""

    def told(self):
        return "refused noback"


class BadText(RoomError):
    """A part of a text is malformed."""

    def __init__(self, place):
        self.place = place

    def told(self):
        return "refused badtext"
