"""A disk that may stop at any deed."""

from stillcopy.errors import BadBlock, Stopped
from stillcopy.limits import within

BLOCKS = 35
MOST_WEIGHT = 40


def is_too_heavy(what):
    """Whether more is in it than a block holds."""
    weight = 0
    # A row of what is still to be weighed, as tuples may lie deeper within one another than calls may.
    waiting = [what]
    while waiting and weight <= MOST_WEIGHT:
        part = waiting.pop()
        if isinstance(part, tuple):
            waiting.extend(part)
        else:
            weight += 1
    return weight > MOST_WEIGHT


def check_block(block):
    """BadBlock if there is no such block."""
    if not within(block, 0, BLOCKS - 1):
        raise BadBlock("there is no such block")


class Disk:
    """Blocks that stay for certain only behind the next settle."""

    def __init__(self):
        self.sure = [None] * BLOCKS
        self.unsure = []
        self.deeds_left = None
        self.armed_picks = ()
        self.running = True
        # Houses ask for it: one that was made ahead of a stop is at its end.
        self.stops = 0

    def write(self, block, what):
        """Puts this into the block."""
        check_block(block)
        if is_too_heavy(what):
            raise BadBlock("it weighs too much")
        self.count_deed()
        self.unsure.append((block, what))

    def settle(self):
        """Makes certain all that was written."""
        self.count_deed()
        for block, what in self.unsure:
            self.sure[block] = what
        self.unsure = []

    def read(self, block):
        """What was written last into the block."""
        check_block(block)
        self.check_running()
        found = self.sure[block]
        for place, what in self.unsure:
            if place == block:
                found = what
        return found

    def arm(self, deeds, picks):
        """Lets the disk stop at the deed behind so many more writes and settles."""
        if self.running:
            self.deeds_left = deeds
            self.armed_picks = tuple(picks)

    def stop(self, picks):
        """Stops the disk; of what isn't settled the picked writes stay."""
        if not self.running:
            return
        for (block, what), pick in zip(self.unsure, picks):
            if pick:
                self.sure[block] = what
        self.unsure = []
        self.running = False
        self.stops += 1

    def again(self):
        """Lets the disk run as it was left, with nothing armed."""
        self.unsure = []
        self.deeds_left = None
        self.armed_picks = ()
        self.running = True

    def settled(self):
        """All blocks as they are settled."""
        return list(self.sure)

    def check_running(self):
        """Stopped if the disk has stopped."""
        if not self.running:
            raise Stopped("the disk has stopped")

    def count_deed(self):
        """Lets one more write or settle be done, or stops the disk ahead of it."""
        self.check_running()
        if self.deeds_left is None:
            return
        if self.deeds_left <= 0:
            self.stop(self.armed_picks)
            raise Stopped("the disk stops at this deed")
        self.deeds_left -= 1
