"""The refusals of the whole interface."""


class StillError(ValueError):
    """Any refusal."""


class BadDeal(StillError):
    """What is handed in is no deal; `place` is that of its first deed that is none."""

    def __init__(self, place):
        super().__init__(f"no deal: its deed at {place} is none")
        self.place = place


class BadHand(StillError):
    """There is no such hand."""


class BadLetter(StillError):
    """The letter is neither the hand's last one nor the next one."""


class BadTime(StillError):
    """The moment isn't later, or is too late."""


class BadKey(StillError):
    """There is no such key, or no such page."""


class BadHouse(StillError):
    """There is no such follower, or there can't be so many."""


class NoCopy(StillError):
    """No such copy is begun, or it doesn't want the page."""


class Behind(StillError):
    """The token is ahead of the house, whose last entry is `number`."""

    def __init__(self, number):
        super().__init__(f"the house is behind: its last entry is {number}")
        self.number = number


class BadBlock(StillError):
    """There is no such block, or what is put there weighs too much."""


class BadEntry(StillError):
    """What is handed in is no entry."""


class BadText(StillError):
    """The text can't be read; `row` is the first row that is no deal."""

    def __init__(self, row):
        super().__init__(f"row {row} is no deal")
        self.row = row


class Stopped(StillError):
    """The disk has stopped, or the house is at its end."""
