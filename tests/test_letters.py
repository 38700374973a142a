"""Points 12 and 13: what the lead sends."""

import unittest

from stillcopy.disk import Disk
from stillcopy.errors import BadHouse
from stillcopy.lead import Lead
from tests.helpers import WatchedDisk, all_of, disk_of, fed, put, seen
from tests.model import model_behind

BAD_NUMBERS = (-1, True, False, 10 ** 19)


class Letters(unittest.TestCase):
    def test_nothing_is_sent_where_nothing_was_heard(self):
        disk = Disk()
        lead = Lead(disk, 3)
        fed(lead, 5)
        lead.heard(1, (0,))
        self.assertEqual([bool(lead.letters(house)) for house in range(3)], [False, True, False])
        self.assertEqual([lead.letters(0), lead.letters(2)], [[], []])
        lead = Lead(disk, 3)
        self.assertEqual([lead.letters(house) for house in range(3)], [[], [], []])

    def test_houses(self):
        for houses in range(4):
            lead = Lead(Disk(), houses)
            fed(lead, 2)
            before = all_of(lead)
            for house in (houses, 3, 4) + BAD_NUMBERS:
                self.assertRaises(BadHouse, lead.letters, house)
                self.assertRaises(BadHouse, lead.heard, house, (0,))
            self.assertEqual(all_of(lead), before)
            for house in range(houses):
                self.assertIsNone(lead.heard(house, (0,)))
                self.assertEqual(len(lead.letters(house)), 2)

    def test_entries_that_it_lacks(self):
        lead = Lead(Disk(), 1)
        entries = fed(lead, 40)
        for knows in range(24, 41):
            lead.heard(0, (knows,))
            letters = lead.letters(0)
            self.assertEqual(letters, [("entry", at + 1, entries[at]) for at in range(knows, 40)])
        self.assertEqual(lead.letters(0), [])
        entries += fed(lead, 2)
        self.assertEqual(lead.letters(0), [("entry", 41, entries[40]), ("entry", 42, entries[41])])

    def test_pages_where_it_lacks_too_much(self):
        lead = Lead(Disk(), 2)
        entries = fed(lead, 40)
        model = model_behind(entries)
        pages = [("page", 40, page, model.page(page, model.moment)) for page in range(9)]
        for knows in (0, 5, 23):
            lead.heard(0, (knows,))
            self.assertEqual(lead.letters(0), pages)
        lead.heard(0, (24,))
        self.assertNotEqual(lead.letters(0), pages)
        self.assertEqual(lead.room()[0], 0)

    def test_late_answers(self):
        lead = Lead(Disk(), 2)
        fed(lead, 10)
        lead.heard(0, (10,))
        for knows in (0, 3, 9, 10):
            lead.heard(0, (knows,))
            self.assertEqual(lead.letters(0), [])
        lead.heard(1, (3,))
        self.assertEqual((len(lead.letters(0)), len(lead.letters(1))), (0, 7))

    def test_told_again_and_new(self):
        lead = Lead(Disk(), 1)
        fed(lead, 5)
        lead.heard(0, (2,))
        letters = lead.letters(0)
        letters.pop()
        self.assertEqual(len(lead.letters(0)), 3)
        for letter in lead.letters(0):
            self.assertIs(type(letter), tuple)

    def test_letters_write_nothing_and_leave_the_table(self):
        disk = WatchedDisk()
        lead = Lead(disk, 1)
        fed(lead, 30)
        before = seen(lead)
        disk.asked = 0
        lead.heard(0, (0,))
        lead.letters(0)
        lead.heard(0, (20,))
        lead.letters(0)
        self.assertEqual((seen(lead), disk.asked), (before, 0))

    def test_entries_are_kept_over_stops(self):
        disk = Disk()
        lead = Lead(disk, 1)
        for count in (1, 2, 9, 16, 3, 20):
            fed(lead, count)
            kept = lead.room()[1]
            self.assertEqual(kept, min(16, lead.known()))
            lead.heard(0, (lead.known() - kept,))
            letters = lead.letters(0)
            disk.stop([])
            disk.again()
            lead = Lead(disk, 1)
            lead.heard(0, (lead.known() - kept,))
            self.assertEqual(lead.letters(0), letters)

    def test_a_lost_entry_is_never_sent(self):
        blocks = []
        disk = Disk()
        entries = fed(Lead(disk, 1), 21)
        blocks = disk.settled()
        for count in range(20):
            disk = disk_of(blocks)
            lead = Lead(disk, 1)
            disk.arm(count, [True] * 9)
            group = [(3, letter, put(31, 900 + letter)) for letter in range(1, 5)]
            try:
                lead.deals(group)
            except ValueError:
                disk.again()
                lead = Lead(disk, 1)
            model = model_behind(entries + [("deal",) + deal for deal in group][:lead.known() - 21])
            lead.heard(0, (lead.known() - lead.room()[1],))
            sent = [letter[2] for letter in lead.letters(0)]
            self.assertEqual(sent, model.entries[len(model.entries) - len(sent):])
            self.assertGreaterEqual(len(sent), 12)


if __name__ == "__main__":
    unittest.main()
