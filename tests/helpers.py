"""What several tests need."""

import random

from stillcopy.disk import Disk
from stillcopy.errors import Stopped
from stillcopy.lead import Lead

PICKS = [[], [True] * 40] + [[False] * at + [True] for at in range(12)] + [[True] * at for at in range(1, 12)]


class WatchedDisk(Disk):
    """A disk that counts what is asked of it to be written or settled."""

    def __init__(self):
        super().__init__()
        self.asked = 0

    def write(self, block, what):
        self.asked += 1
        super().write(block, what)

    def settle(self):
        self.asked += 1
        super().settle()


def disk_of(blocks):
    """A new disk with these settled blocks."""
    disk = Disk()
    for block, what in enumerate(blocks):
        disk.write(block, what)
    disk.settle()
    return disk


def put(key, worth, life=0):
    """A deal of a single put."""
    return (("put", key, worth, life),)


def seen(house):
    """All that a lead tells of its table."""
    return (house.known(), house.clock(), house.whole(), [house.read(key, 0) for key in range(32)])


def all_of(lead):
    """All that a lead tells, but for the pages of its copies."""
    return (seen(lead), [lead.kept_rows(page) for page in range(9)], lead.open_copies(), lead.room(),
            [lead.letters(house) for house in range(lead.houses)])


def is_model(house, model):
    """Whether the house has the model's table."""
    if house.known() != model.known():
        return False
    return seen(house) == (model.known(), model.moment, model.whole(),
                           [(model.known(), model.shows(key)) for key in range(32)])


def stopped_at(call):
    """Whether the call was refused with Stopped."""
    try:
        call()
    except Stopped:
        return True
    return False


def lead_again(disk, houses=0):
    """The disk runs again, and a lead is made of it."""
    disk.again()
    return Lead(disk, houses)


def any_deal(chance):
    """Some deal, of few keys, so that deals meet."""
    deal = []
    for at in range(chance.randint(1, 4)):
        key = chance.choice([0, 1, 3, 4, 9, 31])
        word = chance.choice(["put", "put", "put", "drop", "add", "add", "if"])
        if word == "put":
            deal.append((word, key, chance.choice([0, 1, 5, 998, 999]), chance.choice([0, 0, 1, 2, 9, 1000])))
        elif word == "add":
            deal.append((word, key, chance.choice([-999, -5, -1, 0, 1, 1, 994, 999])))
        elif word == "if":
            deal.append((word, key, chance.choice([None, None, 0, 1, 5, 999])))
        else:
            deal.append((word, key))
    return tuple(deal)


def any_group(chance, model):
    """Some list of deals that can be taken, with next letters and last ones."""
    ahead = {hand: model.letter(hand) for hand in range(4)}
    group = []
    for at in range(chance.randint(0, 4)):
        hand = chance.randint(0, 3)
        if ahead[hand] == 0 or chance.random() < 0.8:
            ahead[hand] += 1
        group.append((hand, ahead[hand], any_deal(chance)))
    return group


def seeded(number):
    """The same chances each time."""
    return random.Random(number)
