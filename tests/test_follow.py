"""Points 12 and 13, and 6 for followers: what is heard, and the table behind it."""

import unittest

from stillcopy.disk import Disk
from stillcopy.errors import BadHouse, BadKey, Behind
from stillcopy.follow import Follower
from stillcopy.lead import Lead
from tests.helpers import (WatchedDisk, all_of, any_entries, disk_of, follower_behind, in_turn, is_behind, is_model,
                           lead_again, led_on, put, round_of, seen, seeded, shuffler, take, take_one, turned_about)
from tests.model import Model, model_behind

BAD_NUMBERS = (-1, True, False, -10 ** 19, 10 ** 19)
ORDERS = (in_turn, turned_about, shuffler(1))
# How much a follower lacks: what is kept as entries by the lead, and more than that.
LACKING = (1, 2, 15, 16, 17, 18, 60)
ENTRIES = any_entries(80, 5)


def lead_behind(entries, houses=1):
    """A lead behind these entries."""
    lead = Lead(Disk(), houses)
    take(lead, entries)
    return lead


class Checked(unittest.TestCase):
    def hear(self, follower, letter, entries):
        """Hears a letter; its table is that behind as many of the entries as it knows, and it knows no less."""
        before = follower.known()
        self.assertIsNone(follower.hear(letter))
        self.assertGreaterEqual(follower.known(), before)
        self.assertTrue(is_behind(follower, entries), letter)

    def hear_all(self, follower, letters, entries):
        for letter in letters:
            self.hear(follower, letter, entries)


class NewFollower(Checked):
    def test_knows_nothing(self):
        follower = Follower(Disk())
        self.assertTrue(is_model(follower, Model()))
        self.assertEqual((follower.known(), follower.clock(), follower.whole()), (0, 0, (0, [], [])))
        self.assertIs(type(follower.answer()), tuple)

    def test_is_led_from_nothing(self):
        lead = lead_behind(ENTRIES[:3])
        follower = Follower(Disk())
        self.assertEqual(lead.letters(0), [])
        lead.heard(0, follower.answer())
        self.assertNotEqual(lead.letters(0), [])
        self.hear_all(follower, lead.letters(0), ENTRIES)
        self.assertEqual(follower.known(), 3)

    def test_of_a_lead_without_entries(self):
        lead = Lead(Disk(), 1)
        follower = Follower(Disk())
        lead.heard(0, follower.answer())
        self.assertEqual(lead.letters(0), [])

    def test_made_again_of_its_disk(self):
        for count in (1, 5, 40, 80):
            disk = follower_behind(ENTRIES, count)
            for blocks in (disk.settled(), Follower(disk_of(disk.settled())).store.disk.settled()):
                follower = Follower(disk_of(blocks))
                self.assertEqual(follower.known(), count)
                self.assertTrue(is_behind(follower, ENTRIES))


class Reads(Checked):
    def test_tokens(self):
        lead = Lead(Disk(), 1)
        lead.deals([(0, 1, put(0, 0)), (0, 2, put(31, 999, 5)), (0, 3, (("if", 0, 5),))])
        follower = Follower(Disk())
        with self.assertRaises(Behind) as caught:
            follower.read(0, 1)
        self.assertEqual(caught.exception.number, 0)
        led_on(lead, 0, follower)
        lead.tick(5)
        for token in (0, 1, 2, 3, -1, -10 ** 19):
            self.assertEqual(follower.read(0, token), (3, 0))
            self.assertEqual(follower.read(31, token), (3, 999))
            self.assertEqual(follower.read(1, token), (3, None))
        for token in (4, 5, 10 ** 19):
            for key in (0, 1, 31):
                with self.assertRaises(Behind) as caught:
                    follower.read(key, token)
                self.assertEqual(caught.exception.number, 3)
        led_on(lead, 0, follower)
        self.assertEqual(follower.read(31, 4), (4, None))
        self.assertEqual(follower.clock(), 5)

    def test_keys(self):
        follower = Follower(Disk())
        for key in (32, 33) + BAD_NUMBERS:
            self.assertRaises(BadKey, follower.read, key, 0)
            self.assertRaises(BadKey, follower.read, key, 1)

    def test_rows_that_have_ended_are_not_shown(self):
        lead = Lead(Disk(), 2)
        lead.deals([(0, 1, put(0, 1, 5) + put(1, 2, 6) + put(2, 3))])
        along, caught_up = Follower(Disk()), Follower(Disk())
        led_on(lead, 0, along)
        lead.tick(5)
        led_on(lead, 0, along)
        self.assertEqual(along.whole(), (5, [(1, 2, 6), (2, 3, 0)], [(0, 1, 1, True)]))
        for letter in range(2, 30):
            lead.deal(0, letter, (("add", 0, 1),))
        led_on(lead, 0, along)
        lead.heard(1, caught_up.answer())
        for letter in lead.letters(1):
            caught_up.hear(letter)
        for follower in (along, caught_up):
            self.assertEqual(follower.whole(), (5, [(1, 2, 6), (2, 3, 0)], [(0, 29, 30, False)]))
            self.assertEqual([follower.read(key, 30)[1] for key in range(4)], [None, 2, 3, None])

    def test_what_is_told_is_new(self):
        follower = Follower(follower_behind(ENTRIES, 60))
        before = seen(follower)
        for told in follower.whole()[1:]:
            told.append(None)
            told[0] = 7
        self.assertEqual(seen(follower), before)
        moment, rows, hands = follower.whole()
        self.assertEqual((type(follower.whole()), type(rows), type(rows[0])), (tuple, list, tuple))
        self.assertEqual((type(hands), type(hands[0]), type(hands[0][3])), (list, tuple, bool))

    def test_refusals_and_questions_write_nothing(self):
        disk = WatchedDisk()
        lead = lead_behind(ENTRIES[:40])
        follower = Follower(disk)
        led_on(lead, 0, follower)
        before, blocks = seen(follower), disk.settled()
        disk.asked = 0
        self.assertRaises(BadKey, follower.read, 32, 0)
        self.assertRaises(Behind, follower.read, 0, 41)
        follower.answer()
        follower.whole()
        self.assertEqual((seen(follower), disk.settled(), disk.asked), (before, blocks, 0))


class Houses(unittest.TestCase):
    def test_followers_that_there_are_not(self):
        for houses in (0, 1, 3):
            lead = lead_behind(ENTRIES[:20], houses)
            answer = Follower(Disk()).answer()
            before = all_of(lead)
            for house in (houses, houses + 1, 3, 4) + BAD_NUMBERS:
                self.assertRaises(BadHouse, lead.letters, house)
                self.assertRaises(BadHouse, lead.heard, house, answer)
            self.assertEqual(all_of(lead), before)

    def test_each_by_itself(self):
        lead = lead_behind(ENTRIES[:20], 3)
        followers = [Follower(Disk()) for house in range(3)]
        led_on(lead, 1, followers[1])
        self.assertEqual([follower.known() for follower in followers], [0, 20, 0])
        self.assertEqual([lead.letters(house) for house in range(3)], [[], [], []])
        take(lead, ENTRIES[20:30])
        self.assertEqual([bool(lead.letters(house)) for house in range(3)], [False, True, False])
        led_on(lead, 2, followers[2])
        self.assertEqual([bool(lead.letters(house)) for house in range(3)], [False, True, False])
        led_on(lead, 0, followers[0])
        led_on(lead, 1, followers[1])
        self.assertEqual([follower.known() for follower in followers], [30, 30, 30])


class LedAlong(Checked):
    def test_each_lack_in_each_order(self):
        for lacking in LACKING:
            for knows in (0, 1, 9, 20):
                entries = ENTRIES[:knows + lacking]
                blocks = follower_behind(ENTRIES, knows).settled()
                for order in ORDERS:
                    lead = lead_behind(entries)
                    follower = Follower(disk_of(blocks))
                    for turn in range(30):
                        lead.heard(0, follower.answer())
                        self.hear_all(follower, order(lead.letters(0)), entries)
                    self.assertEqual(follower.known(), knows + lacking)
                    self.assertEqual(lead.letters(0), [])

    def test_kept_entries_lead_along_one_by_one(self):
        for lacking in (1, 15, 16):
            lead = lead_behind(ENTRIES[:60])
            follower = Follower(follower_behind(ENTRIES, 60 - lacking))
            lead.heard(0, follower.answer())
            numbers = [follower.known()]
            for letter in lead.letters(0):
                self.hear(follower, letter, ENTRIES)
                numbers.append(follower.known())
            self.assertEqual(numbers, list(range(60 - lacking, 61)))

    def test_caught_up_by_pages_at_once(self):
        for lacking in (17, 60):
            lead = lead_behind(ENTRIES[:60])
            follower = Follower(follower_behind(ENTRIES, 60 - lacking))
            before = seen(follower)
            lead.heard(0, follower.answer())
            letters = lead.letters(0)
            for letter in letters[:-1]:
                self.hear(follower, letter, ENTRIES)
                self.assertEqual(seen(follower), before)
            self.hear(follower, letters[-1], ENTRIES)
            self.assertEqual(follower.known(), 60)

    def test_all_letters_of_all_times_in_any_order(self):
        lead = Lead(Disk(), 1)
        follower = Follower(Disk())
        letters = []
        for at, entry in enumerate(ENTRIES):
            take_one(lead, entry)
            if at % 5 == 4:
                other = Lead(disk_of(lead.store.disk.settled()), 1)
                other.heard(0, (max(0, at - 20 + at % 9),))
                letters += other.letters(0)
        for seed in range(6):
            follower = Follower(Disk())
            chance = seeded(seed)
            for letter in chance.choices(letters, k=300) + chance.sample(letters, len(letters)):
                self.hear(follower, letter, ENTRIES)
            for letter in letters + letters[::-1]:
                self.hear(follower, letter, ENTRIES)
            led_on(lead, 0, follower)
            self.assertEqual(follower.known(), 80)

    def test_heard_again_and_late(self):
        disk = WatchedDisk()
        lead = Lead(Disk(), 1)
        follower = Follower(disk)
        heard, answers = [], [follower.answer()]
        for at, entry in enumerate(ENTRIES[:50]):
            take_one(lead, entry)
            lead.heard(0, follower.answer())
            for letter in lead.letters(0):
                self.hear(follower, letter, ENTRIES)
                heard.append(letter)
                answers.append(follower.answer())
        self.assertEqual(follower.known(), 50)
        before, blocks = seen(follower), disk.settled()
        disk.asked = 0
        for letter in heard + heard[::-1]:
            follower.hear(letter)
        self.assertEqual((seen(follower), disk.settled(), disk.asked), (before, blocks, 0))
        for answer in answers + answers[::-1]:
            lead.heard(0, answer)
        self.assertEqual(lead.letters(0), [])
        for answer in answers:
            lead.heard(0, answer)
            self.assertEqual(lead.letters(0), [])

    def test_letters_of_an_older_lead_behind_newer_ones(self):
        disk = Disk()
        old = Lead(disk, 1)
        take(old, ENTRIES[:30])
        follower = Follower(Disk())
        old.heard(0, follower.answer())
        late = old.letters(0)
        old.heard(0, (20,))
        late += old.letters(0)
        disk.stop([])
        new = lead_again(disk, 1)
        self.assertEqual(new.letters(0), [])
        take(new, ENTRIES[30:60])
        led_on(new, 0, follower)
        self.assertEqual(follower.known(), 60)
        self.hear_all(follower, late + late[::-1] + old.letters(0), ENTRIES)
        self.assertEqual(follower.known(), 60)
        other = Follower(Disk())
        self.hear_all(other, late, ENTRIES)
        self.assertEqual(other.known(), 30)
        new.heard(0, follower.answer())
        self.assertEqual(new.letters(0), [])

    def test_answers_of_an_older_follower(self):
        lead = lead_behind(ENTRIES[:40])
        disk = Disk()
        old = Follower(disk)
        late = [old.answer()]
        led_on(lead, 0, old)
        late.append(old.answer())
        new = Follower(disk)
        self.assertEqual(new.known(), 40)
        take(lead, ENTRIES[40:50])
        led_on(lead, 0, new)
        for answer in late + late[::-1] + [old.answer()]:
            lead.heard(0, answer)
            self.assertEqual(lead.letters(0), [])
        take(lead, ENTRIES[50:])
        led_on(lead, 0, new)
        self.assertEqual(new.known(), 80)


class CaughtUp(Checked):
    def pages_at(self, numbers):
        """The letters by which leads at these numbers catch a new follower up."""
        lead = Lead(Disk(), 1)
        lead.heard(0, Follower(Disk()).answer())
        found = {}
        for number in sorted(numbers):
            take(lead, ENTRIES[lead.known():number])
            found[number] = lead.letters(0)
        return found

    def test_while_the_lead_goes_on(self):
        for seed in range(12):
            chance = seeded(seed)
            lead = lead_behind(ENTRIES[:30])
            follower = Follower(Disk())
            late = []
            while lead.known() < 70:
                lead.heard(0, follower.answer())
                letters = lead.letters(0)
                late += letters
                for letter in chance.sample(letters, chance.randint(0, len(letters))) + chance.choices(late or [()], k=3):
                    if letter:
                        self.hear(follower, letter, ENTRIES)
                    if lead.known() < 70 and chance.random() < 0.3:
                        take_one(lead, ENTRIES[lead.known()])
                    if chance.random() < 0.2:
                        lead.tidy(chance.randint(0, 8))
            for turn in range(30):
                lead.heard(0, follower.answer())
                self.hear_all(follower, chance.sample(lead.letters(0), len(lead.letters(0))), ENTRIES)
            self.assertEqual(follower.known(), 70)
            take(lead, ENTRIES[70:])
            lead.heard(0, follower.answer())
            self.assertEqual(len(lead.letters(0)), 10)
            self.hear_all(follower, lead.letters(0), ENTRIES)
            self.assertEqual(follower.known(), 80)

    def test_pages_of_two_numbers_make_no_table(self):
        pages = self.pages_at((40, 41, 60))
        for older, newer in ((40, 41), (40, 60), (41, 60)):
            for cut in range(10):
                for first, second in ((older, newer), (newer, older)):
                    follower = Follower(Disk())
                    self.hear_all(follower, pages[first][:cut] + pages[second][cut:], ENTRIES)
                    self.assertEqual(follower.known(), {0: second, 9: first}.get(cut, 0))
                    self.hear_all(follower, pages[newer], ENTRIES)
                    self.assertEqual(follower.known(), newer)

    def test_older_pages_amid_newer_ones(self):
        pages = self.pages_at((40, 60))
        for cut in range(1, 9):
            follower = Follower(Disk())
            self.hear_all(follower, pages[60][:cut] + pages[40][:8] + pages[60][cut:], ENTRIES)
            self.assertEqual(follower.known(), 60)

    def test_pages_that_are_known_write_nothing(self):
        pages = self.pages_at((40, 60))
        disk = WatchedDisk()
        follower = Follower(disk)
        self.hear_all(follower, pages[40] + pages[60], ENTRIES)
        before, blocks = seen(follower), disk.settled()
        disk.asked = 0
        self.hear_all(follower, pages[60] + pages[40] + pages[60][::-1], ENTRIES)
        self.assertEqual((seen(follower), disk.settled(), disk.asked), (before, blocks, 0))

    def test_pages_twice(self):
        pages = self.pages_at((40,))[40]
        for left_out in range(9):
            follower = Follower(Disk())
            rest = pages[:left_out] + pages[left_out + 1:]
            self.hear_all(follower, rest * 3 + rest[::-1], ENTRIES)
            self.assertEqual(follower.known(), 0)
            self.hear(follower, pages[left_out], ENTRIES)
            self.assertEqual(follower.known(), 40)

    def test_pages_and_entries_amid_each_other(self):
        pages = self.pages_at((40,))[40]
        lead = Lead(Disk(), 1)
        lead.heard(0, Follower(Disk()).answer())
        entries = []
        for entry in ENTRIES[:50]:
            take_one(lead, entry)
            lead.heard(0, (lead.known() - 1,))
            entries += lead.letters(0)
        for count in (1, 5, 39, 40, 41, 50):
            for cut in range(10):
                follower = Follower(Disk())
                self.hear_all(follower, pages[:cut] + entries[:count] + pages[cut:], ENTRIES)
                known = 40 if cut == 9 and count < 41 else max(40, count)
                self.assertEqual(follower.known(), known)
                self.hear_all(follower, entries, ENTRIES)
                self.assertEqual(follower.known(), 50)

    def test_not_told_between(self):
        follower = Follower(Disk())
        empty = seen(follower)
        pages = self.pages_at((40, 60))
        self.hear_all(follower, pages[40][:8] + pages[60][:8], ENTRIES)
        self.assertEqual(seen(follower), empty)
        self.hear(follower, pages[60][8], ENTRIES)
        self.assertTrue(is_model(follower, model_behind(ENTRIES[:60])))

    def test_led_along_again_behind_it(self):
        lead = lead_behind(ENTRIES[:40])
        follower = Follower(Disk())
        round_of(lead, 0, follower, turned_about)
        self.assertEqual(follower.known(), 40)
        for at in range(40, 80):
            take_one(lead, ENTRIES[at])
            self.assertEqual(round_of(lead, 0, follower), 1)
            self.assertEqual(follower.known(), at + 1)
            self.assertTrue(is_behind(follower, ENTRIES))


if __name__ == "__main__":
    unittest.main()
