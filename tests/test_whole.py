"""Point 1 over leads, followers and copies together."""

import unittest

from stillcopy.disk import Disk
from stillcopy.errors import (BadDeal, BadHand, BadHouse, BadKey, BadLetter, BadTime, Behind, NoCopy)
from stillcopy.follow import Follower
from stillcopy.judge import judge
from stillcopy.lead import Lead
from stillcopy.texts import read_deals, written
from tests.helpers import any_group, is_behind, is_model, put, seen, seeded
from tests.model import Model


def spoil(told):
    """Changes what was told, or handed in, in all its lists."""
    if isinstance(told, list):
        for part in told:
            spoil(part)
        told.reverse()
        told.append("spoilt")
        del told[0]
    elif isinstance(told, tuple):
        for part in told:
            spoil(part)
    return told


class Store:
    """A lead with two followers, their disks, and the model of what they are to tell."""

    def __init__(self):
        self.disks = [Disk(), Disk(), Disk()]
        self.lead = Lead(self.disks[0], 2)
        self.followers = [Follower(disk) for disk in self.disks[1:]]
        self.model = Model()
        # All that was read by hands, for the judgement.
        self.readings = []

    def state(self):
        """All that may not change by a refusal."""
        return ([seen(house) for house in [self.lead] + self.followers], self.lead.open_copies(), self.lead.room(),
                [self.lead.kept_rows(page) for page in range(9)], [disk.settled() for disk in self.disks],
                [self.lead.letters(house) for house in range(2)], [follower.answer() for follower in self.followers])


class Together(unittest.TestCase):
    def step(self, store, chance):
        """One deed of a store, all that is told and handed in being changed behind it."""
        deed = chance.choice([self.deals, self.deals, self.tick, self.copy, self.read_pages, self.close, self.tidy, self.write,
                              self.write, self.read, self.ask])
        deed(store, chance)
        self.assertTrue(is_model(store.lead, store.model))
        self.assertEqual(store.lead.open_copies(), store.model.open_copies())
        self.assertEqual(store.lead.room(), (store.model.aside(), min(16, store.model.known())))
        for follower in store.followers:
            self.assertTrue(is_behind(follower, store.model.entries))

    def deals(self, store, chance):
        group = any_group(chance, store.model)
        expected = [store.model.deal(*deal) for deal in group]
        if chance.random() < 0.5:
            group = read_deals(written(group))
        told = store.lead.deals(group)
        self.assertEqual(told, expected)
        spoil(told)
        spoil(group)

    def tick(self, store, chance):
        moment = store.model.moment + chance.randint(1, 3)
        self.assertEqual(store.lead.tick(moment), store.model.tick(moment))

    def copy(self, store, chance):
        if len(store.model.copies) < 4:
            self.assertEqual(store.lead.copy(), store.model.copy())

    def read_pages(self, store, chance):
        for name, number, pages in store.lead.open_copies():
            page = chance.choice(pages)
            self.assertEqual(store.lead.read_page(name, page), store.model.read_page(name, page))
        spoil(store.lead.open_copies())

    def close(self, store, chance):
        if len(store.model.copies) > 2:
            name = chance.choice(sorted(store.model.copies))
            store.lead.close(name)
            del store.model.copies[name]

    def tidy(self, store, chance):
        # The model knows nothing of it: nothing but kept_rows is changed by it.
        store.lead.tidy(chance.randint(0, 8))

    def write(self, store, chance):
        for house, follower in enumerate(store.followers):
            if chance.random() < 0.8:
                store.lead.heard(house, follower.answer())
            letters = store.lead.letters(house)
            # All of them, or some, and some of these twice.
            handed = chance.sample(letters, len(letters))
            if letters and chance.random() < 0.6:
                handed = chance.choices(letters, k=chance.randint(0, 12))
            spoil(letters)
            for letter in handed:
                known = follower.known()
                self.assertIsNone(follower.hear(letter))
                self.assertGreaterEqual(follower.known(), known)

    def read(self, store, chance):
        """Reads for a hand with its token, at any house that isn't behind, as its readings are judged then."""
        house = chance.choice([store.lead] + store.followers)
        hand, key = chance.randint(0, 3), chance.randrange(32)
        token = max([0] + [number for other, number, at, worth in store.readings if other == hand])
        if token > house.known():
            self.assertRaises(Behind, house.read, key, token)
        else:
            number, worth = house.read(key, token)
            store.readings.append((hand, number, key, worth))
        entries = [entry if entry[0] == "tick" else ("deal", entry[1], entry[3]) for entry in store.model.entries]
        readings = list(store.readings)
        self.assertIsNone(judge(entries, readings))
        self.assertEqual(readings, store.readings)

    def ask(self, store, chance):
        for house in [store.lead] + store.followers:
            spoil(house.whole())
        for disk in store.disks:
            spoil(disk.settled())
        spoil(store.lead.open_copies())
        before = store.state()
        self.assertEqual(store.state(), before)

    def test_two_stores_turn_about(self):
        for seed in range(5):
            chance = seeded(seed)
            stores = [Store(), Store()]
            for turn in range(300):
                store, other = stores if chance.random() < 0.5 else stores[::-1]
                apart = other.state()
                self.step(store, chance)
                self.assertEqual(other.state(), apart)
                if turn % 10 == 0:
                    self.check_refusals(store)
            self.assertGreater(min([store.model.known() for store in stores]), 40)
            self.assertTrue(all([follower.known() > 16 for store in stores for follower in store.followers]))

    def check_refusals(self, store):
        """All refusals leave everything as it was."""
        lead = store.lead
        letter, moment, known = store.model.letter(0), store.model.moment, store.model.known()
        group = [(1, store.model.letter(1) + 1, put(0, 7))]
        unwanted = [(name, page) for name, number, pages in lead.open_copies() for page in range(-1, 11) if page not in pages]
        before = store.state()
        cases = [
            (BadHand, lead.deal, 4, 1, put(0, 1)), (BadHand, lead.deals, group + [(True, 1, ())]),
            (BadLetter, lead.deal, 0, letter + 2, put(0, 1)), (BadLetter, lead.deals, group + [(0, letter - 1, put(0, 1))]),
            (BadLetter, lead.deals, group * 5), (BadDeal, lead.deals, group + [(0, letter + 1, put(0, 1) * 5)]),
            (BadDeal, lead.deal, 0, letter + 1, ()), (BadTime, lead.tick, moment), (BadTime, lead.tick, 10 ** 6 + 1),
            (BadKey, lead.read, 32, 0), (Behind, lead.read, 0, known + 1), (BadKey, lead.tidy, 9), (BadKey, lead.kept_rows, -1),
            (NoCopy, lead.close, store.model.begun), (NoCopy, lead.close, -1), (NoCopy, lead.read_page, store.model.begun, 0),
            (BadHouse, lead.letters, 2), (BadHouse, lead.heard, 2, store.followers[0].answer()), (BadHouse, lead.letters, True),
            (BadHouse, Lead, store.disks[0], 4),
        ]
        cases += [(NoCopy, lead.read_page, name, page) for name, page in unwanted]
        for follower in store.followers:
            cases += [(BadKey, follower.read, key, 0) for key in (-1, 32, True)]
            cases += [(Behind, follower.read, 0, follower.known() + 1)]
        for error, call, *handed in cases:
            self.assertRaises(error, call, *handed)
            self.assertEqual(store.state(), before, (error, handed))


if __name__ == "__main__":
    unittest.main()
