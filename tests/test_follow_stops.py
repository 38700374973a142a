"""Point 9 for followers, and 12 to 14 over stops: a disk that stops amid a letter, or between."""

import unittest

from stillcopy.disk import Disk
from stillcopy.errors import StillError, Stopped
from stillcopy.follow import Follower
from stillcopy.lead import Lead
from tests.helpers import (PICKS, any_deal, any_entries, disk_of, follower_again, follower_behind, is_behind, lead_again,
                           led_on, seen, seeded, shuffler, stopped_at, take, take_one, told_by)
from tests.model import Model, model_behind

ENTRIES = any_entries(90, 8)


def lead_behind(count):
    """A lead behind so many of the entries."""
    lead = Lead(Disk(), 1)
    take(lead, ENTRIES[:count])
    return lead


def entry_letters(first, last):
    """The letters that tell of the entries from the first to the last."""
    lead = lead_behind(first - 1)
    led = Follower(follower_behind(ENTRIES, first - 1))
    found = []
    for at in range(first - 1, last):
        take_one(lead, ENTRIES[at])
        lead.heard(0, led.answer())
        found += lead.letters(0)
        led_on(lead, 0, led)
    return found


def page_letters(number):
    """The letters that catch a new follower up to this number."""
    lead = lead_behind(number)
    lead.heard(0, Follower(Disk()).answer())
    return lead.letters(0)


PAGES = {number: page_letters(number) for number in (40, 60)}
NEXT = entry_letters(21, 24)

# What was heard ahead, by a follower that knows so many entries, and the letter that is then stopped.
CASES = {
    "the first entry": (0, [], entry_letters(1, 1)[0]),
    "the next entry": (20, [], NEXT[0]),
    "an entry behind others": (20, NEXT[:3], NEXT[3]),
    "an entry that is known": (24, [], NEXT[3]),
    "an entry that comes too early": (20, [], NEXT[2]),
    "the next entry amid a catching up": (20, PAGES[40][:5], NEXT[0]),
    "the first page": (20, [], PAGES[40][0]),
    "a page among others": (20, PAGES[40][:5], PAGES[40][7]),
    "a page again": (20, PAGES[40][:5], PAGES[40][2]),
    "a page of a newer number": (20, PAGES[40][:8], PAGES[60][3]),
    "a page of an older number": (20, PAGES[60][:3], PAGES[40][7]),
    "the last page": (20, PAGES[40][:8], PAGES[40][8]),
    "the last page of a new follower": (0, PAGES[60][1:], PAGES[60][0]),
    "the last page behind older ones": (20, PAGES[40][:8] + PAGES[60][1:], PAGES[60][0]),
    "a page that is known": (40, [], PAGES[40][8]),
    "an entry behind a catching up": (20, PAGES[40], entry_letters(41, 41)[0]),
    "entries behind a catching up": (20, PAGES[40] + entry_letters(41, 45), entry_letters(46, 46)[0]),
    "a second catching up": (0, PAGES[40] + PAGES[60][:8], PAGES[60][8]),
}


def follower_that_heard(known, heard):
    """A disk and a follower of it, which knew so much and heard these letters then."""
    disk = disk_of(follower_behind(ENTRIES, known).settled())
    follower = Follower(disk)
    for letter in heard:
        follower.hear(letter)
    return disk, follower


class Checked(unittest.TestCase):
    def check_end(self, follower, before, disk, letters):
        """A house that is at its end tells what it told, hears nothing, and can't be made of a stopped disk."""
        blocks = disk.settled()
        self.assertEqual(seen(follower), before)
        for letter in letters:
            self.assertRaises(Stopped, follower.hear, letter)
        self.assertRaises(Stopped, Follower, disk)
        self.assertEqual((seen(follower), disk.settled()), (before, blocks))

    def check_made_anew(self, disk, least):
        """A follower is made of the disk; it knows as much at least, and can be led on."""
        follower = follower_again(disk)
        self.assertGreaterEqual(follower.known(), least)
        self.assertTrue(is_behind(follower, ENTRIES))
        twin = Follower(disk_of(disk.settled()))
        self.assertEqual(seen(twin), seen(follower))
        self.check_led_on(twin)
        return follower

    def check_led_on(self, follower):
        """It is led to the end of the entries."""
        led_on(LEAD, 0, follower)
        self.assertEqual(follower.known(), len(ENTRIES))
        self.assertTrue(is_behind(follower, ENTRIES))


class FreshLead:
    """A lead that has heard nothing yet, at each round."""

    def __init__(self, blocks):
        self.blocks = blocks
        self.answer = None

    def heard(self, house, answer):
        self.answer = answer

    def letters(self, house):
        lead = Lead(disk_of(self.blocks), 1)
        lead.heard(house, self.answer)
        return lead.letters(house)


LEAD = FreshLead(lead_behind(len(ENTRIES)).store.disk.settled())


class EveryStop(Checked):
    def check_case(self, known, heard, letter):
        """Stops the disk at every deed within the hearing of the letter; tells how many deeds there are."""
        start, first = follower_that_heard(known, heard)
        blocks = start.settled()
        least, before = first.known(), seen(first)
        for picks in PICKS:
            for count in range(101):
                disk = disk_of(blocks)
                follower = Follower(disk)
                self.assertEqual(seen(follower), before)
                disk.arm(count, picks)
                if not stopped_at(lambda: follower.hear(letter)):
                    least_behind = follower.known()
                    disk.stop(picks)
                    self.check_made_anew(disk, least_behind)
                    break
                self.check_end(follower, before, disk, heard + [letter])
                new = self.check_made_anew(disk, least)
                self.check_end_of_old_beside_new(follower, new, before, letter)
            else:
                self.fail("the letter needs too many deeds of its disk")
        return count

    def check_end_of_old_beside_new(self, old, new, before, letter):
        """The new follower hears the letter and goes on; the old one stays at its end."""
        self.assertRaises(Stopped, old.hear, letter)
        new.hear(letter)
        self.assertTrue(is_behind(new, ENTRIES))
        self.assertRaises(Stopped, old.hear, letter)
        self.assertEqual(seen(old), before)
        self.assertTrue(is_behind(new, ENTRIES))

    def test_within_each_kind_of_letter(self):
        for name, (known, heard, letter) in CASES.items():
            with self.subTest(name):
                deeds = self.check_case(known, heard, letter)
                start, follower = follower_that_heard(known, heard)
                before = start.settled()
                follower.hear(letter)
                # A letter of no use writes nothing, and then no deed of it can be stopped.
                self.assertEqual(deeds > 0, start.settled() != before)

    def test_useful_letters_are_stopped(self):
        for name in ("the next entry", "the first page", "the last page", "an entry behind a catching up"):
            self.assertGreater(self.check_case(*CASES[name]), 0)

    def test_within_the_making(self):
        for known, heard, letter in CASES.values():
            start, first = follower_that_heard(known, heard)
            blocks, least = start.settled(), first.known()
            for picks in PICKS:
                for count in range(101):
                    disk = disk_of(blocks)
                    old = Follower(disk)
                    disk.arm(count, picks)
                    if not stopped_at(lambda: Follower(disk)):
                        break
                    self.assertRaises(Stopped, Follower, disk)
                    disk.again()
                    self.assertRaises(Stopped, old.hear, letter)
                    new = Follower(disk)
                    self.assertEqual(seen(new), seen(first))
                    self.assertEqual(new.known(), least)
                    new.hear(letter)
                    self.assertTrue(is_behind(new, ENTRIES))
            self.check_led_on(new)

    def test_making_on_a_new_disk(self):
        for picks in PICKS:
            for count in range(101):
                disk = Disk()
                disk.arm(count, picks)
                if not stopped_at(lambda: Follower(disk)):
                    break
                follower = follower_again(disk)
                self.assertEqual(follower.known(), 0)
                self.check_led_on(follower)

    def test_between_letters(self):
        for number in (40, 60):
            letters = PAGES[number] + entry_letters(number + 1, number + 20)
            disk = Disk()
            follower = Follower(disk)
            for letter in letters:
                follower.hear(letter)
                before = seen(follower)
                disk.stop([True] * 9)
                self.check_end(follower, before, disk, [letter])
                follower = self.check_made_anew(disk, before[0])
                self.assertEqual(seen(follower), before)
            self.assertEqual(follower.known(), number + 20)

    def test_gathered_pages_last_over_stops(self):
        for order in (PAGES[40], PAGES[40][::-1]):
            disk = Disk()
            for letter in order:
                follower_again(disk).hear(letter)
                disk.stop([])
            self.assertEqual(follower_again(disk).known(), 40)


class Ends(Checked):
    def test_house_ahead_is_at_its_end(self):
        for known, heard, letter in CASES.values():
            disk, old = follower_that_heard(known, heard)
            before = seen(old)
            new = Follower(disk)
            self.assertEqual(seen(new), before)
            blocks = disk.settled()
            self.assertRaises(StillError, old.hear, letter)
            self.assertEqual((disk.settled(), seen(old)), (blocks, before))
            new.hear(letter)
            self.assertRaises(StillError, old.hear, letter)
            self.assertEqual(seen(old), before)
            self.check_led_on(new)
            self.assertEqual(seen(old), before)

    def test_at_its_end_it_still_tells(self):
        disk, follower = follower_that_heard(20, NEXT)
        before = seen(follower)
        disk.stop([])
        with self.assertRaises(StillError) as caught:
            follower.read(0, 25)
        self.assertEqual(caught.exception.number, 24)
        self.assertEqual(seen(follower), before)
        LEAD.heard(0, follower.answer())
        self.assertTrue(LEAD.letters(0))

    def test_a_disk_that_runs_on_ends_no_house(self):
        disk, follower = follower_that_heard(20, NEXT[:1])
        disk.arm(0, [])
        disk.again()
        follower.hear(NEXT[1])
        self.assertEqual(follower.known(), 22)


class Turns(unittest.TestCase):
    """A lead and its followers that stop by turns, while letters and answers get lost and come late."""

    def begin(self, seed):
        self.chance = seeded(seed)
        self.disks = [Disk() for house in range(4)]
        self.lead = Lead(self.disks[3], 3)
        self.followers = [Follower(disk) for disk in self.disks[:3]]
        self.late = [[] for house in range(3)]
        self.answers = [[] for house in range(3)]
        self.model = Model()
        # What a house tells behind no entry, behind one, and so on.
        self.told = [told_by(self.model)]

    def stop_some(self):
        """Arms or stops some disks."""
        for disk in self.disks:
            roll = self.chance.random()
            if roll < 0.12:
                disk.arm(self.chance.randint(0, 12), self.chance.choice(PICKS))
            elif roll < 0.16:
                disk.stop(self.chance.choice(PICKS))

    def next_entry(self):
        if self.chance.random() < 0.2:
            return ("tick", self.model.moment + 1)
        hand = self.chance.randint(0, 3)
        return ("deal", hand, self.model.letter(hand) + 1, any_deal(self.chance, range(0, 32, 3)))

    def go_on(self):
        """The lead takes an entry and tidies, or is made again where it was stopped."""
        entry = self.next_entry()
        if stopped_at(lambda: take_one(self.lead, entry)) or stopped_at(lambda: self.lead.tidy(self.chance.randint(0, 8))):
            self.disks[3].stop([])
            self.lead = lead_again(self.disks[3], 3)
        if self.lead.known() > self.model.known():
            self.model = model_behind([entry], self.model)
            self.told.append(told_by(self.model))
        self.assertEqual(seen(self.lead), self.told[-1])

    def write_to(self, house):
        """The lead hears answers of a follower, which hears letters; some are lost, and some come late."""
        answers, late = self.answers[house], self.late[house]
        answers.append(self.followers[house].answer())
        for answer in self.chance.choices(answers, k=2) + answers[-1:]:
            self.lead.heard(house, answer)
        late += self.lead.letters(house)
        letters = late[-20:] if self.chance.random() < 0.7 else self.chance.choices(late or [()], k=5)
        for letter in letters:
            known = self.followers[house].known()
            if letter and stopped_at(lambda: self.followers[house].hear(letter)):
                self.disks[house].stop([])
                self.followers[house] = follower_again(self.disks[house])
            self.assertGreaterEqual(self.followers[house].known(), known)
            self.assertEqual(seen(self.followers[house]), self.told[self.followers[house].known()])

    def test_all_stop_by_turns(self):
        for seed in range(8):
            self.begin(seed)
            for turn in range(150):
                self.stop_some()
                for house in range(3):
                    self.write_to(house)
                for at in range(self.chance.choice([0, 1, 2, 20])):
                    self.go_on()
            lead = lead_again(self.disks[3], 3)
            for house in range(3):
                follower = follower_again(self.disks[house])
                led_on(lead, house, follower, shuffler(house))
                self.assertEqual(seen(follower), self.told[-1])


if __name__ == "__main__":
    unittest.main()
