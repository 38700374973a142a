"""What several tests need."""

import random

from stillcopy.disk import Disk
from stillcopy.errors import Stopped
from stillcopy.follow import Follower
from stillcopy.lead import Lead
from tests.model import Model, model_behind

PICKS = [[], [True] * 40] + [[False] * at + [True] for at in range(12)] + [[True] * at for at in range(1, 12)]


class WatchedDisk(Disk):
    """A disk that counts what is asked of it to be written or settled."""

    def __init__(self):
        super().__init__()
        self.asked = 0

    def write(self, block, what):
        self.asked += 1
        super().write(block, what)

    def settle(self):
        self.asked += 1
        super().settle()


def disk_of(blocks):
    """A new disk with these settled blocks."""
    disk = Disk()
    for block, what in enumerate(blocks):
        disk.write(block, what)
    disk.settle()
    return disk


def put(key, worth, life=0):
    """A deal of a single put."""
    return (("put", key, worth, life),)


def seen(house):
    """All that a lead tells of its table."""
    return (house.known(), house.clock(), house.whole(), [house.read(key, 0) for key in range(32)])


def all_of(lead):
    """All that a lead tells, but for the pages of its copies."""
    return (seen(lead), [lead.kept_rows(page) for page in range(9)], lead.open_copies(), lead.room(),
            [lead.letters(house) for house in range(lead.houses)])


def told_by(model):
    """What a house with the model's table tells."""
    worths = {key: worth for key, worth, end in model.whole()[1]}
    return (model.known(), model.moment, model.whole(), [(model.known(), worths.get(key)) for key in range(32)])


def is_model(house, model):
    """Whether the house has the model's table."""
    return house.known() == model.known() and seen(house) == told_by(model)


def stopped_at(call):
    """Whether the call was refused with Stopped."""
    try:
        call()
    except Stopped:
        return True
    return False


def fed(lead, count):
    """Lets the lead take so many more entries; tells them."""
    entries = []
    for at in range(count):
        moment = lead.clock() + 1
        if at % 3 == 2:
            lead.tick(moment)
            entries.append(("tick", moment))
        else:
            letter = 1 + sum([row[1] for row in lead.whole()[2] if row[0] == 0])
            lead.deal(0, letter, put(letter % 32, letter, letter % 4))
            entries.append(("deal", 0, letter, put(letter % 32, letter, letter % 4)))
    return entries


def lead_again(disk, houses=0):
    """The disk runs again, and a lead is made of it."""
    disk.again()
    return Lead(disk, houses)


def follower_again(disk):
    """The disk runs again, and a follower is made of it."""
    disk.again()
    return Follower(disk)


def in_turn(letters):
    return list(letters)


def turned_about(letters):
    return list(letters)[::-1]


def shuffler(seed):
    """Shuffles letters, otherwise each time."""
    chance = seeded(seed)
    return lambda letters: chance.sample(list(letters), len(list(letters)))


def round_of(lead, house, follower, order=in_turn):
    """One round of answer, heard, letters and hear; tells how many letters there were."""
    lead.heard(house, follower.answer())
    letters = order(lead.letters(house))
    for letter in letters:
        follower.hear(letter)
    return len(letters)


def led_on(lead, house, follower, order=in_turn):
    """Thirty rounds at most, till nothing is sent any more."""
    for turn in range(30):
        if round_of(lead, house, follower, order) == 0:
            return


def follower_behind(entries, count):
    """A disk of a follower which knows so many of the entries, as a lead of its own led it along."""
    disk = Disk()
    follower = Follower(disk)
    old = Lead(Disk(), 1)
    for at, entry in enumerate(entries[:count]):
        take_one(old, entry)
        if at % 7 == 0 or at == count - 1:
            round_of(old, 0, follower)
    assert follower.known() == count
    return disk


def take_one(lead, entry):
    """Hands one entry to the lead."""
    if entry[0] == "tick":
        lead.tick(entry[1])
    else:
        lead.deal(*entry[1:])


def take(lead, entries):
    """Hands the entries to the lead, one after the other."""
    for entry in entries:
        take_one(lead, entry)


def is_behind(house, entries):
    """Whether the house has just the table behind as many of the entries as it knows."""
    return is_model(house, model_behind(entries[:house.known()]))


def any_deal(chance, keys=(0, 1, 3, 4, 9, 31)):
    """Some deal, of few keys, so that deals meet."""
    deal = []
    for at in range(chance.randint(1, 4)):
        key = chance.choice(keys)
        word = chance.choice(["put", "put", "put", "drop", "add", "add", "if"])
        if word == "put":
            deal.append((word, key, chance.choice([0, 1, 5, 998, 999]), chance.choice([0, 0, 1, 2, 9, 1000])))
        elif word == "add":
            deal.append((word, key, chance.choice([-999, -5, -1, 0, 1, 1, 994, 999])))
        elif word == "if":
            deal.append((word, key, chance.choice([None, None, 0, 1, 5, 999])))
        else:
            deal.append((word, key))
    return tuple(deal)


def any_entries(count, seed):
    """A row of entries that a lead can take, over all pages, with rows that end amid it."""
    chance = seeded(seed)
    model = Model()
    while model.known() < count:
        if chance.random() < 0.3:
            model.tick(model.moment + chance.randint(1, 3))
        else:
            hand = chance.randint(0, 3)
            model.deal(hand, model.letter(hand) + 1, any_deal(chance, range(0, 32, 3)))
    return model.entries


def any_group(chance, model):
    """Some list of deals that can be taken, with next letters and last ones."""
    ahead = {hand: model.letter(hand) for hand in range(4)}
    group = []
    for at in range(chance.randint(0, 4)):
        hand = chance.randint(0, 3)
        if ahead[hand] == 0 or chance.random() < 0.8:
            ahead[hand] += 1
        group.append((hand, ahead[hand], any_deal(chance)))
    return group


def seeded(number):
    """The same chances each time."""
    return random.Random(number)
