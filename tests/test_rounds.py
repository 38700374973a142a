"""Point 14: thirty rounds bring a follower to the lead's number, and no letter wants more than a hundred deeds."""

import unittest

from stillcopy.disk import Disk
from stillcopy.follow import Follower
from stillcopy.lead import Lead
from tests.helpers import (any_entries, disk_of, follower_behind, in_turn, is_behind, lead_again, seeded, shuffler, take,
                           turned_about)

ENTRIES = any_entries(100, 11)
DEEDS = 100


class Rounds(unittest.TestCase):
    def lead_of(self, blocks):
        """A lead that has heard nothing."""
        return Lead(disk_of(blocks), 1)

    def test_from_each_number(self):
        for known in (0, 1, 7, 40):
            blocks = follower_behind(ENTRIES, known).settled()
            for lacking in (0, 1, 2, 15, 16, 17, 31, 60):
                disk = Disk()
                take(Lead(disk, 1), ENTRIES[:known + lacking])
                for at in range(4):
                    lead = self.lead_of(disk.settled())
                    self.check_rounds(lead, blocks, at)

    def check_rounds(self, lead, blocks, at):
        """Leads a follower that is made of these blocks on, the letters in one of the orders."""
        disk = disk_of(blocks)
        follower = Follower(disk)
        order = (in_turn, turned_about, shuffler(4), shuffler(5))[at]
        for turn in range(30):
            lead.heard(0, follower.answer())
            for letter in order(lead.letters(0)):
                disk.arm(DEEDS, [])
                follower.hear(letter)
            disk.again()
        self.assertEqual(follower.known(), lead.known())
        self.assertTrue(is_behind(follower, ENTRIES))
        self.assertEqual(lead.letters(0), [])

    def test_from_amid_a_catching_up(self):
        lead = Lead(Disk(), 1)
        take(lead, ENTRIES[:50])
        lead.heard(0, Follower(Disk()).answer())
        first = lead.letters(0)
        take(lead, ENTRIES[50:60])
        second = lead.letters(0)
        for seed in range(10):
            chance = seeded(seed)
            for goal in (60, 61, 90):
                disk = Disk()
                follower = Follower(disk)
                for letter in chance.sample(first, chance.randint(0, 9)) + chance.sample(second, chance.randint(0, 9)):
                    follower.hear(letter)
                other = Lead(Disk(), 1)
                take(other, ENTRIES[:goal])
                for at in range(4):
                    self.check_rounds(self.lead_of(other.store.disk.settled()), disk.settled(), at)

    def test_with_a_lead_that_has_lost_entries(self):
        """A stopped deed may have put what does not count in the place of older entries."""
        for count in range(12):
            disk = Disk()
            lead = Lead(disk, 1)
            take(lead, ENTRIES[:40])
            disk.arm(count, [True] * 20)
            hands = {row[0]: row[1] for row in lead.whole()[2]}
            group = [(0, hands.get(0, 0) + at, (("put", 0, at, 0),)) for at in range(1, 5)]
            try:
                lead.deals(group)
            except ValueError:
                lead = lead_again(disk, 1)
            disk.again()
            if lead.known() > 40:
                continue
            for known in (0, 20, 24, 25, 28, 29, 39, 40):
                blocks = follower_behind(ENTRIES, known).settled()
                for at in range(4):
                    self.check_rounds(self.lead_of(disk.settled()), blocks, at)


if __name__ == "__main__":
    unittest.main()
