"""Point 9: a disk that stops amid a deed of the lead, or between."""

import unittest

from stillcopy.disk import Disk
from stillcopy.errors import BadHouse, BadKey, StillError, Stopped
from stillcopy.lead import Lead
from tests.helpers import (PICKS, all_of, any_group, disk_of, is_model, lead_again, put, seen, seeded, stopped_at,
                           take)
from tests.model import model_behind

FIRST = [
    ("deal", 0, 1, put(0, 1) + put(5, 2, 9) + put(31, 3, 4)), ("deal", 1, 1, (("if", 0, 7),)), ("tick", 3),
    ("deal", 0, 2, (("add", 5, 1), ("put", 1, 4, 1))), ("tick", 4), ("deal", 3, 1, put(9, 9) + put(10, 9, 2)),
]
# More than sixteen, so that the places of entries are used again.
LONG = FIRST + [("deal", 2, letter, put(letter, letter, letter % 4)) for letter in range(1, 14)] + [("tick", 7)]


def disk_behind(entries):
    """The disk of a lead behind these entries."""
    disk = Disk()
    take(Lead(disk, 1), entries)
    return disk


class EveryStop(unittest.TestCase):
    def prefixes(self, lead, entries, pending):
        """How many of the pending entries the lead has; it may have only the first ones, in turn."""
        more = lead.known() - len(entries)
        self.assertTrue(0 <= more <= len(pending), more)
        self.assertTrue(is_model(lead, model_behind(entries + pending[:more])))
        return more

    def check_every_stop(self, entries, pending, deed):
        """Stops the disk at every deed of the disk within this deed of the lead."""
        stopped_once = False
        blocks = disk_behind(entries).settled()
        for picks in PICKS:
            for count in range(200):
                disk = disk_of(blocks)
                lead = Lead(disk, 1)
                before = seen(lead)
                disk.arm(count, picks)
                if not stopped_at(lambda: deed(lead)):
                    disk.stop([])
                    self.prefixes(lead_again(disk), entries + pending, [])
                    break
                stopped_once = True
                self.check_end(lead, before, disk)
                new = lead_again(disk)
                more = self.prefixes(new, entries, pending)
                self.assertEqual(seen(lead), before)
                self.check_lost_never_come_back(disk, new, entries + pending[:more])
            else:
                self.fail("the deed needs too many deeds of its disk")
        return stopped_once

    def check_end(self, lead, before, disk):
        """A house that is at its end tells what it told, and can't be made of a stopped disk."""
        self.assertEqual(seen(lead), before)
        self.assertRaises(Stopped, Lead, disk, 1)
        self.assertRaises(Stopped, lead.tick, lead.clock() + 1)
        self.assertRaises(Stopped, lead.tidy, 0)
        self.assertEqual(seen(lead), before)

    def check_lost_never_come_back(self, disk, lead, entries):
        """Entries that were lost stay lost, however the disk stops behind."""
        entries = list(entries)
        others = [("tick", lead.clock() + 1), ("deal", 3, lead_letter(lead, 3) + 1, put(30, 30))]
        for pending in others:
            twin = disk_of(disk.settled())
            self.prefixes(Lead(twin, 0), entries, [])
            take(lead, [pending])
            entries.append(pending)
            disk.stop([True] * 40)
            disk.again()
            lead = Lead(disk, 0)
            self.prefixes(lead, entries, [])

    def test_within_a_deal(self):
        for entries in (FIRST[:1], FIRST, LONG):
            letter = 1 + sum(entry[:2] == ("deal", 0) for entry in entries)
            for deal in [put(0, 8) + put(4, 8) + put(8, 8, 5) + put(28, 8), (("if", 0, 999),), (("drop", 0), ("add", 0, 1))]:
                pending = [("deal", 0, letter, deal)]
                self.assertTrue(self.check_every_stop(entries, pending, lambda lead: lead.deal(0, letter, deal)))

    def test_within_a_group_of_four(self):
        for entries in ([], FIRST, LONG):
            letter = 1 + sum(entry[:2] == ("deal", 0) for entry in entries)
            group = [(0, letter, put(0, 8) + put(12, 8)), (0, letter + 1, (("add", 0, 1),)),
                     (0, letter + 2, put(16, 8) + (("drop", 12),)), (0, letter + 3, (("if", 0, 1),))]
            pending = [("deal",) + deal for deal in group]
            self.assertTrue(self.check_every_stop(entries, pending, lambda lead: lead.deals(group)))

    def test_within_a_group_with_letters_told_again(self):
        group = [(0, 2, put(1, 1)), (1, 2, put(2, 2)), (1, 2, put(3, 3)), (0, 3, put(4, 4))]
        pending = [("deal",) + group[1], ("deal",) + group[3]]
        self.assertTrue(self.check_every_stop(FIRST, pending, lambda lead: lead.deals(group)))

    def test_within_a_tick(self):
        for entries in ([], FIRST, LONG):
            self.assertTrue(self.check_every_stop(entries, [("tick", 900)], lambda lead: lead.tick(900)))

    def test_within_a_tidy(self):
        for entries in ([], FIRST, LONG):
            for page in range(9):
                self.check_every_stop(entries, [], lambda lead: lead.tidy(page))

    def test_within_the_making(self):
        for entries in ([], FIRST, LONG):
            blocks = disk_behind(entries).settled() if entries else [None] * 35
            for picks in PICKS:
                for count in range(200):
                    disk = disk_of(blocks)
                    disk.arm(count, picks)
                    if not stopped_at(lambda: Lead(disk, 1)):
                        break
                    self.assertRaises(Stopped, Lead, disk, 1)
                    new = lead_again(disk)
                    self.prefixes(new, entries, [])
                    self.check_lost_never_come_back(disk, new, entries)

    def test_a_letter_told_again_is_done_once(self):
        for picks in PICKS:
            for count in range(200):
                disk = disk_behind(FIRST)
                lead = Lead(disk, 0)
                group = [(0, 3, (("add", 0, 1),)), (0, 4, (("add", 0, 1),)), (1, 2, (("add", 0, 1),))]
                disk.arm(count, picks)
                stopped = stopped_at(lambda: lead.deals(group))
                lead = lead_again(disk)
                for hand, letter, deal in group:
                    if lead_letter(lead, hand) <= letter:
                        lead.deal(hand, letter, deal)
                self.assertEqual(lead.read(0, 0), (len(FIRST) + 3, 4))
                if not stopped:
                    break


def lead_letter(lead, hand):
    """The hand's last letter."""
    for found, letter, number, done in lead.whole()[2]:
        if found == hand:
            return letter
    return 0


class HouseAtItsEnd(unittest.TestCase):
    def test_stopped_between(self):
        disk = disk_behind(FIRST)
        lead = Lead(disk, 2)
        lead.copy()
        before = all_of(lead)
        disk.stop([])
        for call in [lambda: lead.tick(9), lambda: lead.tidy(3), lambda: lead.deal(0, 3, put(0, 9)),
                     lambda: lead.deals([(0, 3, put(0, 9))])]:
            self.assertRaises(Stopped, call)
        self.assertEqual(all_of(lead), before)
        self.assertRaises(StillError, lead.read, 32, 0)
        self.assertRaises(BadKey, lead.tidy, 9)
        disk.again()
        blocks = disk.settled()
        for call in [lambda: lead.tick(9), lambda: lead.tidy(3), lambda: lead.deal(0, 3, put(0, 9))]:
            self.assertRaises(Stopped, call)
        self.assertEqual((all_of(lead), disk.settled()), (before, blocks))
        new = Lead(disk, 0)
        self.assertEqual(seen(new), before[0])
        self.assertEqual(new.tick(9), len(FIRST) + 1)
        self.assertEqual(all_of(lead), before)

    def test_no_lead_is_made_of_a_stopped_disk(self):
        disk = Disk()
        disk.stop([])
        for houses in range(4):
            self.assertRaises(Stopped, Lead, disk, houses)
        self.assertEqual(disk.settled(), [None] * 35)
        disk.again()
        self.assertRaises(BadHouse, Lead, disk, 4)
        self.assertEqual(Lead(disk, 3).known(), 0)

    def test_new_lead_has_no_copies(self):
        disk = disk_behind(FIRST)
        lead = Lead(disk, 0)
        lead.copy()
        lead.copy()
        lead.tick(50)
        disk.stop([])
        new = lead_again(disk)
        self.assertEqual((new.open_copies(), new.room()[0]), ([], 0))
        self.assertEqual(new.copy(), (0, len(FIRST) + 1))


class LongRows(unittest.TestCase):
    """Stops behind stops behind stops."""

    def step(self, lead, chance):
        """Some deed of the lead; tells its entries and how to do it."""
        model = model_behind(self.entries)
        what = chance.choice(["deals", "deals", "deals", "tick", "tidy"])
        if what == "deals":
            group = any_group(chance, model)
            pending = []
            for hand, letter, deal in group:
                if letter != model.letter(hand):
                    pending.append(("deal", hand, letter, deal))
                    model.deal(hand, letter, deal)
            return pending, lambda: lead.deals(group)
        if what == "tick":
            moment = model.moment + chance.choice([1, 1, 2, 5, 500])
            return [("tick", moment)], lambda: lead.tick(moment)
        page = chance.randint(0, 8)
        return [], lambda: lead.tidy(page)

    def make_again(self, disk, chance):
        """A lead of the disk, which may stop while it is made."""
        while True:
            disk.again()
            if chance.random() < 0.5:
                disk.arm(chance.randint(0, 3), [chance.random() < 0.5 for at in range(4)])
            try:
                return Lead(disk, 0)
            except Stopped:
                self.stops += 1

    def test_long_rows_of_stops(self):
        self.stops = 0
        for seed in range(60):
            chance = seeded(seed)
            disk = Disk()
            lead = Lead(disk, 0)
            self.entries = []
            for turn in range(60):
                if chance.random() < 0.6:
                    disk.arm(chance.randint(0, 12), [chance.random() < chance.choice([0.2, 0.8]) for at in range(20)])
                before = seen(lead)
                pending, deed = self.step(lead, chance)
                if stopped_at(deed):
                    self.stops += 1
                    self.assertEqual(seen(lead), before)
                    lead = self.make_again(disk, chance)
                    more = lead.known() - len(self.entries)
                    self.assertTrue(0 <= more <= len(pending))
                    pending = pending[:more]
                elif chance.random() < 0.2:
                    disk.stop([True] * 9)
                    lead = self.make_again(disk, chance)
                self.entries += pending
                self.assertTrue(is_model(lead, model_behind(self.entries)), (seed, turn))
                self.assertLessEqual(lead.room()[1], min(16, lead.known()))
        self.assertGreater(self.stops, 500)


if __name__ == "__main__":
    unittest.main()
