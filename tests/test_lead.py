"""Points 1 and 4 to 7: the lead."""

import unittest

from stillcopy.disk import Disk
from stillcopy.errors import (BadDeal, BadHand, BadHouse, BadKey, BadLetter, BadTime, Behind, NoCopy, StillError)
from stillcopy.lead import Lead
from tests.helpers import WatchedDisk, all_of, disk_of, is_model, put, seen
from tests.model import Model

BAD_NUMBERS = (-1, True, False, -10 ** 19, 10 ** 19)


class Making(unittest.TestCase):
    def test_houses(self):
        for houses in range(4):
            lead = Lead(Disk(), houses)
            self.assertEqual([lead.letters(house) for house in range(houses)], [[]] * houses)
            for house in (houses, houses + 1) + BAD_NUMBERS:
                self.assertRaises(BadHouse, lead.letters, house)
                self.assertRaises(BadHouse, lead.heard, house, ())

    def test_houses_that_there_cannot_be(self):
        for houses in (4, 5) + BAD_NUMBERS:
            disk = WatchedDisk()
            self.assertRaises(BadHouse, Lead, disk, houses)
            self.assertEqual((disk.asked, disk.settled()), (0, [None] * 35))

    def test_refused_making_ends_no_house(self):
        disk = Disk()
        lead = Lead(disk, 0)
        self.assertRaises(BadHouse, Lead, disk, 4)
        self.assertEqual(lead.tick(1), 1)

    def test_made_of_the_disk_of_a_lead(self):
        disk = Disk()
        lead = Lead(disk, 1)
        model = Model()
        for turn in range(1, 30):
            self.assertEqual(lead.deal(turn % 4, (turn + 3) // 4, put(turn, turn, turn % 5 * 3)),
                             model.deal(turn % 4, (turn + 3) // 4, put(turn, turn, turn % 5 * 3)))
            self.assertEqual(lead.tick(turn), model.tick(turn))
            twin = Lead(disk_of(disk.settled()), turn % 4)
            self.assertTrue(is_model(twin, model))
            self.assertEqual(twin.tick(turn + 1), model.known() + 1)
            self.assertTrue(is_model(lead, model))
            if turn % 3 == 0:
                lead = Lead(disk, 1)
                self.assertTrue(is_model(lead, model))

    def test_house_ahead_is_at_its_end(self):
        disk = Disk()
        old = Lead(disk, 0)
        old.deal(0, 1, put(0, 5))
        new = Lead(disk, 0)
        before = seen(old)
        new.deal(0, 2, put(0, 6))
        new.tick(4)
        blocks = disk.settled()
        for call in [lambda: old.deal(0, 2, put(0, 7)), lambda: old.tick(9), lambda: old.tidy(0)]:
            self.assertRaises(StillError, call)
        self.assertEqual(disk.settled(), blocks)
        self.assertEqual(seen(old), before)
        self.assertEqual(new.whole(), (4, [(0, 6, 0)], [(0, 2, 2, True)]))
        self.assertEqual(new.tick(5), 4)

    def test_what_lies_on_the_disk(self):
        disk = WatchedDisk()
        lead = Lead(disk, 3)
        widest = (("put", 0, 999, 1000), ("put", 1, 999, 1000), ("put", 2, 999, 1000), ("put", 3, 999, 1000))
        for letter in range(1, 20):
            lead.deals([(hand, letter, widest) for hand in range(4)])
            lead.tick(letter)
        for what in disk.settled():
            waiting = [what]
            while waiting:
                part = waiting.pop()
                if isinstance(part, tuple):
                    waiting.extend(part)
                else:
                    self.assertIn(type(part), (int, str, bool, type(None)))

    def test_two_leads_on_two_disks(self):
        one, other = Lead(Disk(), 0), Lead(Disk(), 0)
        empty = all_of(other)
        one.deal(0, 1, put(0, 5))
        one.copy()
        one.tick(4)
        self.assertEqual(all_of(other), empty)
        self.assertEqual(other.copy(), (0, 0))
        self.assertEqual(other.deal(0, 1, put(0, 6)), (1, True))
        self.assertEqual(one.whole(), (4, [(0, 5, 0)], [(0, 1, 1, True)]))


class Group(unittest.TestCase):
    def setUp(self):
        self.disk = WatchedDisk()
        self.lead = Lead(self.disk, 0)

    def check_refused(self, error, call, *args):
        before = all_of(self.lead)
        self.disk.asked = 0
        blocks = self.disk.settled()
        self.assertRaises(error, call, *args)
        self.assertEqual((all_of(self.lead), self.disk.asked, self.disk.settled()), (before, 0, blocks))

    def test_numbers_of_entries(self):
        self.assertEqual(self.lead.known(), 0)
        self.assertEqual(self.lead.deal(0, 1, put(0, 5)), (1, True))
        self.assertEqual(self.lead.tick(3), 2)
        self.assertEqual(self.lead.deal(0, 2, (("if", 0, 9),)), (3, False))
        self.assertEqual(self.lead.deals([(0, 3, put(0, 6)), (3, 1, (("add", 1, 1),)), (1, 1, (("add", 0, 1),))]),
                         [(4, True), (5, False), (6, True)])
        self.assertEqual(self.lead.tick(4), 7)
        self.assertEqual((self.lead.known(), self.lead.clock()), (7, 4))
        self.assertEqual(self.lead.whole(), (4, [(0, 7, 0)], [(0, 3, 4, True), (1, 1, 6, True), (3, 1, 5, False)]))

    def test_lists_of_one_to_five(self):
        for count in range(1, 5):
            lead = Lead(Disk(), 0)
            group = [(hand, 1, put(hand, count)) for hand in range(count)]
            handed = list(group)
            self.assertEqual(lead.deals(handed), [(at + 1, True) for at in range(count)])
            self.assertEqual((handed, lead.known()), (group, count))
        for group in ([(0, at + 1, put(0, 1)) for at in range(5)], [(0, 1, put(0, 1))] * 5, [(0, 1, put(0, 1))] * 9):
            self.check_refused(BadLetter, self.lead.deals, group)

    def test_list_of_none(self):
        self.lead.deal(0, 1, put(0, 1))
        before = all_of(self.lead)
        self.disk.asked = 0
        self.assertEqual(self.lead.deals([]), [])
        self.assertEqual((all_of(self.lead), self.disk.asked), (before, 0))

    def test_four_of_one_hand(self):
        told = self.lead.deals([(2, 1, put(0, 1)), (2, 2, (("add", 0, 1),)), (2, 3, (("add", 0, 998),)), (2, 4, put(1, 1))])
        self.assertEqual(told, [(1, True), (2, True), (3, False), (4, True)])
        self.assertEqual(self.lead.whole()[2], [(2, 4, 4, True)])

    def test_letters_told_again(self):
        for hand, done in [(0, True), (3, False)]:
            deal = put(hand, 5) if done else (("if", hand, 5),)
            first = self.lead.deal(hand, 1, deal)
            self.assertEqual(first, (self.lead.known(), done))
            before = all_of(self.lead)
            for again in (deal, put(20, 1), (("if", 30, 1),)):
                self.assertEqual(self.lead.deal(hand, 1, again), first)
                self.assertEqual(self.lead.deals([(hand, 1, again)] * 4), [first] * 4)
            self.assertEqual(all_of(self.lead), before)
        self.lead.tick(9)
        self.lead.deal(1, 1, put(9, 9))
        self.assertEqual(self.lead.deals([(0, 1, put(1, 1)), (3, 1, put(1, 1))]), [(1, True), (2, False)])
        self.lead = Lead(self.disk, 0)
        self.assertEqual(self.lead.deals([(0, 1, put(1, 1)), (3, 1, put(1, 1))]), [(1, True), (2, False)])

    def test_letters_told_again_within_a_list(self):
        told = self.lead.deals([(0, 1, put(0, 1)), (0, 1, put(0, 2)), (1, 1, (("add", 0, 1),)), (0, 1, put(0, 3))])
        self.assertEqual(told, [(1, True), (1, True), (2, True), (1, True)])
        self.assertEqual(self.lead.known(), 2)
        told = self.lead.deals([(0, 1, put(0, 4)), (0, 2, put(0, 5)), (0, 2, put(0, 6)), (1, 1, put(0, 7))])
        self.assertEqual(told, [(1, True), (3, True), (3, True), (2, True)])
        self.assertEqual(self.lead.whole(), (0, [(0, 5, 0)], [(0, 2, 3, True), (1, 1, 2, True)]))

    def test_bad_letters(self):
        good = put(0, 1)
        for letter in (0, 2, 3) + BAD_NUMBERS:
            self.check_refused(BadLetter, self.lead.deal, 0, letter, good)
        self.lead.deals([(0, 1, good), (0, 2, good), (0, 3, good), (1, 1, good)])
        for letter in (0, 1, 2, 5, 6) + BAD_NUMBERS:
            self.check_refused(BadLetter, self.lead.deal, 0, letter, good)
        for letter in (0, 3) + BAD_NUMBERS:
            self.check_refused(BadLetter, self.lead.deal, 1, letter, good)
        self.check_refused(BadLetter, self.lead.deals, [(0, 4, good), (0, 3, good)])
        self.check_refused(BadLetter, self.lead.deals, [(0, 4, good), (0, 5, good), (0, 4, good)])
        self.check_refused(BadLetter, self.lead.deals, [(0, 4, good), (0, 6, good)])
        self.check_refused(BadLetter, self.lead.deals, [(0, 5, good), (0, 4, good)])
        self.assertEqual(self.lead.deals([(0, 3, good), (0, 4, good), (0, 5, good), (1, 2, good)]),
                         [(3, True), (5, True), (6, True), (7, True)])

    def test_bad_hands(self):
        for hand in (4, 5) + BAD_NUMBERS:
            self.check_refused(BadHand, self.lead.deal, hand, 1, put(0, 1))
            self.check_refused(BadHand, self.lead.deals, [(0, 1, put(0, 1)), (hand, 1, put(0, 1))])

    def test_which_refusal_comes_first(self):
        good, bad = put(0, 1), put(0, 1000)
        cases = [
            (BadHand, [(4, 0, bad)]), (BadLetter, [(0, 0, bad)]), (BadDeal, [(0, 1, bad)]),
            (BadDeal, [(0, 1, bad), (4, 0, bad)]), (BadLetter, [(0, 2, good), (4, 1, good)]),
            (BadHand, [(0, 1, good), (4, 1, good), (0, 9, bad)]), (BadLetter, [(0, 1, good), (0, 3, bad), (4, 1, good)]),
            (BadDeal, [(0, 1, good), (0, 1, bad), (4, 1, good)]), (BadLetter, [(4, 1, bad)] * 5),
            (BadLetter, [(0, 1, bad)] * 6), (BadHand, [(4, 1, bad)] * 4), (BadDeal, [(0, 1, ())]),
            (BadDeal, [(0, 1, good), (1, 1, good), (2, 1, good), (3, 1, bad)]),
        ]
        for error, group in cases:
            self.check_refused(error, self.lead.deals, group)
        self.assertEqual(self.lead.deal(0, 1, good), (1, True))
        self.check_refused(BadDeal, self.lead.deal, 0, 1, bad)

    def test_what_is_handed_in_may_be_changed_later(self):
        group = [(0, 1, put(0, 1)), (1, 1, put(1, 1))]
        told = self.lead.deals(group)
        before = all_of(self.lead)
        group[0] = (3, 7, put(9, 9))
        group.clear()
        told.append(1)
        told[0] = None
        self.assertEqual(all_of(self.lead), before)
        self.assertEqual(self.lead.deals([(0, 1, put(0, 1))]), [(1, True)])

    def test_what_is_told_is_new(self):
        self.lead.deals([(0, 1, put(0, 1)), (1, 1, put(9, 1, 4))])
        self.lead.copy()
        before = all_of(self.lead)
        for told in [self.lead.whole()[1], self.lead.whole()[2], self.lead.open_copies(), self.lead.open_copies()[0][2]]:
            told.pop()
            told.insert(0, None)
        self.assertEqual(all_of(self.lead), before)

    def test_kinds(self):
        told = self.lead.deals([(0, 1, put(0, 1))])
        self.assertEqual((type(told), type(told[0]), type(told[0][1])), (list, tuple, bool))
        told = self.lead.deal(0, 2, put(0, 1))
        self.assertEqual((type(told), type(told[0]), type(told[1])), (tuple, int, bool))
        self.assertIs(type(self.lead.tick(2)), int)
        moment, rows, hands = self.lead.whole()
        self.assertEqual((type(self.lead.whole()), type(rows), type(rows[0])), (tuple, list, tuple))
        self.assertEqual((type(hands), type(hands[0]), type(hands[0][3])), (list, tuple, bool))
        self.assertIs(type(self.lead.read(0, 0)), tuple)
        self.assertIs(type(self.lead.room()), tuple)
        self.assertIsNone(self.lead.tidy(0))

    def test_settled_all_at_once(self):
        group = [(hand, 1, put(hand, hand)) for hand in range(4)]
        self.lead.deals(group)
        self.disk.stop([])
        self.disk.again()
        lead = Lead(self.disk, 0)
        self.assertEqual(lead.known(), 4)
        self.assertEqual(lead.deals(group), [(at, True) for at in range(1, 5)])


class Ticks(unittest.TestCase):
    def test_moments(self):
        disk = WatchedDisk()
        lead = Lead(disk, 0)
        self.assertEqual(lead.clock(), 0)
        number = 0
        for moment in (1, 2, 500, 10 ** 6 - 1, 10 ** 6):
            before = all_of(lead)
            disk.asked = 0
            for bad in (lead.clock(), lead.clock() - 1, 0, 10 ** 6 + 1) + BAD_NUMBERS:
                self.assertRaises(BadTime, lead.tick, bad)
            self.assertEqual((all_of(lead), disk.asked), (before, 0))
            number += 1
            self.assertEqual(lead.tick(moment), number)
            self.assertEqual((lead.known(), lead.clock()), (number, moment))
        for bad in (10 ** 6, 10 ** 6 + 1):
            self.assertRaises(BadTime, lead.tick, bad)
        self.assertEqual(Lead(disk, 0).clock(), 10 ** 6)


class Reads(unittest.TestCase):
    def test_tokens(self):
        lead = Lead(Disk(), 0)
        self.assertEqual(lead.read(0, 0), (0, None))
        with self.assertRaises(Behind) as caught:
            lead.read(0, 1)
        self.assertEqual(caught.exception.number, 0)
        lead.deals([(0, 1, put(0, 0)), (0, 2, put(31, 999, 5)), (0, 3, (("if", 0, 5),))])
        for token in (0, 1, 2, 3, -1, -10 ** 19):
            self.assertEqual(lead.read(0, token), (3, 0))
            self.assertEqual(lead.read(31, token), (3, 999))
            self.assertEqual(lead.read(1, token), (3, None))
        for token in (4, 5, 10 ** 19):
            with self.assertRaises(Behind) as caught:
                lead.read(0, token)
            self.assertEqual(caught.exception.number, 3)
        lead.tick(5)
        self.assertEqual(lead.read(31, 4), (4, None))

    def test_keys(self):
        lead = Lead(Disk(), 0)
        for key in (32, 33) + BAD_NUMBERS:
            self.assertRaises(BadKey, lead.read, key, 0)
            self.assertRaises(BadKey, lead.read, key, 1)

    def test_whole(self):
        lead = Lead(Disk(), 0)
        self.assertEqual(lead.whole(), (0, [], []))
        lead.deals([(3, 1, put(31, 1, 5)), (1, 1, put(4, 2)), (3, 2, put(0, 3, 6)), (0, 1, (("if", 0, 4),))])
        self.assertEqual(lead.whole(), (0, [(0, 3, 6), (4, 2, 0), (31, 1, 5)],
                                        [(0, 1, 4, False), (1, 1, 2, True), (3, 2, 3, True)]))
        lead.tick(5)
        self.assertEqual(lead.whole(), (5, [(0, 3, 6), (4, 2, 0)], [(0, 1, 4, False), (1, 1, 2, True), (3, 2, 3, True)]))
        lead.tick(1000)
        self.assertEqual(lead.whole()[1], [(4, 2, 0)])

    def test_asked_again_the_same_is_told_and_nothing_is_written(self):
        disk = WatchedDisk()
        lead = Lead(disk, 2)
        lead.deals([(0, 1, put(0, 1, 5)), (1, 1, put(9, 1))])
        lead.copy()
        lead.tick(5)
        disk.asked = 0
        blocks = disk.settled()
        before = all_of(lead)
        self.assertEqual(all_of(lead), before)
        name, number = lead.copy()
        lead.read_page(name, 0)
        lead.close(name)
        lead.heard(0, (0,))
        lead.letters(0)
        self.assertRaises(NoCopy, lead.close, 7)
        self.assertEqual((disk.asked, disk.settled()), (0, blocks))


class Tidy(unittest.TestCase):
    def lead_with_rows(self, disk):
        """A lead with four rows on each page, of which those of keys 4n and 4n + 1 have ended."""
        lead = Lead(disk, 0)
        letter = 0
        for key in range(0, 32, 2):
            letter += 1
            lead.deal(letter % 3, (letter + 2) // 3, put(key, key, 5 if key % 4 == 0 else 0) + put(key + 1, key, 5 + key % 4))
        lead.tick(5)
        return lead

    def test_each_page(self):
        disk = Disk()
        lead = self.lead_with_rows(disk)
        before = seen(lead)
        shown = {page: len([row for row in lead.whole()[1] if row[0] // 4 == page]) for page in range(8)}
        self.assertEqual(set(shown.values()), {2})
        for page in range(8):
            self.assertTrue(shown[page] <= lead.kept_rows(page) <= 4)
        self.assertEqual(lead.kept_rows(8), 3)
        for page in [3, 8, 0, 7, 1, 2, 4, 5, 6]:
            self.assertIsNone(lead.tidy(page))
            self.assertEqual(lead.kept_rows(page), 3 if page == 8 else shown[page])
            self.assertEqual(seen(lead), before)
            self.assertEqual(lead.kept_rows(8), 3)
        disk.stop([])
        disk.again()
        lead = Lead(disk, 0)
        self.assertEqual(seen(lead), before)
        self.assertEqual([lead.kept_rows(page) for page in range(9)], [2] * 8 + [3])

    def test_ended_rows_are_kept_at_most(self):
        lead = Lead(Disk(), 0)
        self.assertEqual([lead.kept_rows(page) for page in range(9)], [0] * 9)
        lead.deal(2, 1, put(4, 1, 1) + put(5, 1, 2))
        self.assertEqual([lead.kept_rows(page) for page in range(9)], [0, 2, 0, 0, 0, 0, 0, 0, 1])
        lead.tick(1)
        self.assertIn(lead.kept_rows(1), (1, 2))
        lead.tidy(0)
        lead.tidy(1)
        self.assertEqual(lead.kept_rows(1), 1)
        lead.tick(2)
        lead.deal(2, 2, put(4, 1, 1))
        lead.tidy(1)
        self.assertEqual(lead.kept_rows(1), 1)
        lead.deal(2, 3, (("drop", 4),))
        self.assertEqual(lead.kept_rows(1), 0)

    def test_tidied_once_and_again(self):
        lead = self.lead_with_rows(Disk())
        lead.tidy(2)
        before = all_of(lead)
        lead.tidy(2)
        self.assertEqual(all_of(lead), before)

    def test_tidy_is_no_entry(self):
        lead = self.lead_with_rows(Disk())
        number = lead.known()
        for page in range(9):
            lead.tidy(page)
        self.assertEqual(lead.known(), number)
        self.assertEqual(lead.deal(3, 1, put(0, 1)), (number + 1, True))

    def test_pages_that_there_are_not(self):
        disk = WatchedDisk()
        lead = self.lead_with_rows(disk)
        before = all_of(lead)
        disk.asked = 0
        for page in (9, 10) + BAD_NUMBERS:
            self.assertRaises(BadKey, lead.tidy, page)
            self.assertRaises(BadKey, lead.kept_rows, page)
        self.assertEqual((all_of(lead), disk.asked), (before, 0))

    def test_hands_that_have_dealt(self):
        lead = Lead(Disk(), 0)
        for count, hand in enumerate([2, 0, 3, 1]):
            self.assertEqual(lead.kept_rows(8), count)
            lead.deal(hand, 1, (("if", 0, 1),))
            lead.deal(hand, 2, put(0, 1) + (("drop", 0),))
            lead.tidy(8)
            self.assertEqual(lead.kept_rows(8), count + 1)


if __name__ == "__main__":
    unittest.main()
