"""Points 10 and 11: copies, and the room that they take."""

import unittest

from stillcopy.disk import Disk
from stillcopy.errors import NoCopy
from stillcopy.lead import Lead
from tests.helpers import WatchedDisk, all_of, any_group, is_model, put, seeded
from tests.model import Model

PAGES = list(range(9))


class Copies(unittest.TestCase):
    def setUp(self):
        self.disk = WatchedDisk()
        self.lead = Lead(self.disk, 0)
        self.letter = 0

    def done(self, deal):
        self.letter += 1
        self.assertIs(self.lead.deal(1, self.letter, deal)[1], True)

    def check_no_copy(self, call, *args):
        before = all_of(self.lead)
        self.assertRaises(NoCopy, call, *args)
        self.assertEqual(all_of(self.lead), before)

    def test_of_an_empty_table(self):
        self.assertEqual(self.lead.copy(), (0, 0))
        self.assertEqual(self.lead.open_copies(), [(0, 0, PAGES)])
        self.assertEqual([self.lead.read_page(0, page) for page in PAGES], [()] * 8 + [(0, ())])
        self.assertEqual(self.lead.open_copies(), [])

    def test_pages(self):
        self.lead.tick(4)
        self.done(put(0, 5) + put(3, 6, 9) + put(4, 7, 1) + put(31, 999))
        self.lead.tick(5)
        self.assertEqual(self.lead.copy(), (0, 3))
        told = {page: self.lead.read_page(0, page) for page in (8, 0, 7, 1, 2)}
        self.assertEqual(told, {8: (5, ((1, 1, 2, True),)), 0: ((0, 5, 0), (3, 6, 13)), 7: ((31, 999, 0),), 1: (), 2: ()})
        for page, content in told.items():
            self.assertIs(type(content), tuple)

    def test_names(self):
        self.assertEqual(self.lead.copy(), (0, 0))
        self.done(put(0, 1))
        self.assertEqual(self.lead.copy(), (1, 1))
        self.assertEqual(self.lead.copy(), (2, 1))
        self.lead.close(1)
        self.assertEqual(self.lead.copy(), (3, 1))
        self.lead.close(3)
        self.lead.close(0)
        self.lead.close(2)
        self.assertEqual(self.lead.open_copies(), [])
        self.lead.tick(1)
        self.assertEqual(self.lead.copy(), (4, 2))
        self.assertEqual(self.lead.open_copies(), [(4, 2, PAGES)])

    def test_wanted_pages(self):
        self.lead.copy()
        self.done(put(0, 1))
        self.lead.copy()
        wanted = list(PAGES)
        for page in (3, 8, 0, 1, 7, 6, 2, 4):
            self.lead.read_page(0, page)
            wanted.remove(page)
            self.assertEqual(self.lead.open_copies(), [(0, 0, wanted), (1, 1, PAGES)])
            self.check_no_copy(self.lead.read_page, 0, page)
        self.lead.read_page(0, 5)
        self.assertEqual(self.lead.open_copies(), [(1, 1, PAGES)])
        for page in PAGES:
            self.check_no_copy(self.lead.read_page, 0, page)
        self.check_no_copy(self.lead.close, 0)

    def test_no_copy(self):
        for name in (0, 1, -1, True, False):
            self.check_no_copy(self.lead.close, name)
            self.check_no_copy(self.lead.read_page, name, 0)
        self.lead.copy()
        self.lead.copy()
        for name in (2, 3, -1, 10 ** 19, True, False):
            self.check_no_copy(self.lead.close, name)
            self.check_no_copy(self.lead.read_page, name, 0)
        for page in (9, 10, -1, True, False, 10 ** 19):
            self.check_no_copy(self.lead.read_page, 0, page)
        self.assertIsNone(self.lead.close(0))
        self.check_no_copy(self.lead.close, 0)
        for page in PAGES + [9]:
            self.check_no_copy(self.lead.read_page, 0, page)
        self.assertEqual(self.lead.open_copies(), [(1, 0, PAGES)])

    def test_copies_write_nothing(self):
        self.done(put(0, 1))
        self.disk.asked = 0
        blocks = self.disk.settled()
        name, number = self.lead.copy()
        self.lead.read_page(name, 0)
        self.lead.open_copies()
        self.lead.room()
        self.lead.close(name)
        self.assertEqual((self.disk.asked, self.disk.settled()), (0, blocks))

    def test_told_lists_are_new(self):
        self.lead.copy()
        told = self.lead.open_copies()
        told[0][2].clear()
        told.clear()
        self.assertEqual(self.lead.open_copies(), [(0, 0, PAGES)])
        self.assertEqual(self.lead.read_page(0, 0), ())

    def test_rows_that_change_behind(self):
        self.done(put(0, 1) + put(1, 2, 9) + put(4, 3))
        self.lead.copy()
        self.done((("add", 0, 1), ("drop", 1), ("put", 2, 9, 0)))
        self.lead.copy()
        self.done((("drop", 0), ("drop", 2), ("put", 4, 4, 0)))
        self.lead.copy()
        self.assertEqual(self.lead.read_page(1, 0), ((0, 2, 0), (2, 9, 0)))
        self.assertEqual(self.lead.read_page(0, 0), ((0, 1, 0), (1, 2, 9)))
        self.assertEqual(self.lead.read_page(2, 0), ())
        self.assertEqual([self.lead.read_page(name, 1) for name in (2, 1, 0)], [((4, 4, 0),), ((4, 3, 0),), ((4, 3, 0),)])
        self.assertEqual([self.lead.read_page(name, 8) for name in (0, 2, 1)],
                         [(0, ((1, 1, 1, True),)), (0, ((1, 3, 3, True),)), (0, ((1, 2, 2, True),))])

    def test_rows_that_end_behind(self):
        for tidied in (False, True):
            self.setUp()
            self.done(put(0, 1, 5) + put(1, 2, 6) + put(4, 3, 5) + put(2, 2))
            self.lead.copy()
            self.lead.tick(5)
            self.lead.copy()
            self.lead.tick(100)
            self.lead.copy()
            if tidied:
                self.lead.tidy(0)
                self.lead.tidy(1)
            self.done(put(5, 5))
            self.assertEqual(self.lead.read_page(2, 0), ((2, 2, 0),))
            self.assertEqual(self.lead.read_page(0, 0), ((0, 1, 5), (1, 2, 6), (2, 2, 0)))
            self.assertEqual(self.lead.read_page(1, 0), ((1, 2, 6), (2, 2, 0)))
            self.assertEqual(self.lead.read_page(0, 1), ((4, 3, 5),))
            self.assertEqual([self.lead.read_page(name, 1) for name in (2, 1)], [(), ()])
            self.assertEqual([self.lead.read_page(name, 8)[0] for name in (1, 0, 2)], [5, 0, 100])

    def test_a_row_that_ended_ahead_is_never_told(self):
        self.done(put(0, 1, 5))
        self.lead.tick(5)
        self.lead.copy()
        self.lead.tidy(0)
        self.assertEqual(self.lead.read_page(0, 0), ())


class Room(unittest.TestCase):
    def setUp(self):
        self.lead = Lead(Disk(), 0)
        self.letter = 0

    def done(self, deal):
        self.letter += 1
        self.assertIs(self.lead.deal(1, self.letter, deal)[1], True)

    def aside(self):
        """The page states that are kept aside, but for those of page 8 of which no copy is rid."""
        return self.lead.room()[0]

    def begin(self):
        """Begins a copy that does not want page 8 any more."""
        name, number = self.lead.copy()
        self.lead.read_page(name, 8)
        return name

    def test_none_where_no_copy_is_open(self):
        self.done(put(0, 1))
        self.assertEqual(self.aside(), 0)
        name = self.begin()
        self.done(put(0, 2))
        self.assertEqual(self.aside(), 1)
        self.lead.close(name)
        self.assertEqual(self.aside(), 0)
        self.done(put(0, 3))
        self.lead.tick(4)
        self.assertEqual(self.aside(), 0)

    def test_changed_pages_alone(self):
        self.begin()
        self.assertEqual(self.aside(), 0)
        self.done(put(0, 1))
        self.assertEqual(self.aside(), 1)
        self.done(put(3, 1))
        self.assertEqual(self.aside(), 1)
        self.done(put(4, 1) + put(8, 1) + put(31, 1) + (("drop", 20),))
        self.assertEqual(self.aside(), 4)
        self.lead.read_page(0, 1)
        self.assertEqual(self.aside(), 3)
        self.lead.read_page(0, 3)
        self.assertEqual(self.aside(), 3)
        self.lead.read_page(0, 0)
        self.assertEqual(self.aside(), 2)

    def test_alike_states(self):
        self.done(put(0, 1) + put(4, 1))
        one, other = self.begin(), self.begin()
        self.done(put(0, 2))
        self.assertEqual(self.aside(), 1)
        third = self.begin()
        self.assertEqual(self.aside(), 1)
        self.done(put(0, 3))
        self.assertEqual(self.aside(), 2)
        self.done(put(4, 2))
        self.assertEqual(self.aside(), 3)
        self.lead.read_page(one, 0)
        self.assertEqual(self.aside(), 3)
        self.lead.read_page(other, 0)
        self.assertEqual(self.aside(), 2)
        self.lead.close(third)
        self.assertEqual(self.aside(), 1)

    def test_alike_contents_of_unlike_pages(self):
        self.begin()
        self.done(put(0, 1) + put(4, 1))
        self.assertEqual(self.aside(), 2)

    def test_alike_again_at_different_numbers(self):
        self.done(put(0, 1))
        self.begin()
        self.done(put(0, 2))
        self.begin()
        self.done(put(0, 1))
        self.begin()
        self.assertEqual(self.aside(), 1)
        self.done(put(0, 3))
        self.assertEqual(self.aside(), 2)

    def test_changed_and_changed_back(self):
        self.done(put(0, 1, 10) + put(1, 1))
        self.begin()
        self.done((("add", 0, 1),))
        self.assertEqual(self.aside(), 1)
        self.done((("add", 0, -1),))
        self.assertEqual(self.aside(), 0)
        self.done((("drop", 1),))
        self.assertEqual(self.aside(), 1)
        self.lead.tick(3)
        self.done(put(1, 1) + put(0, 1, 7))
        self.assertEqual(self.aside(), 0)
        self.done(put(0, 1, 8))
        self.assertEqual(self.aside(), 1)
        self.assertEqual(self.lead.read_page(0, 0), ((0, 1, 10), (1, 1, 0)))

    def test_a_deal_that_was_not_done(self):
        self.begin()
        self.lead.deal(0, 1, put(0, 1) + (("if", 0, 2),))
        self.assertEqual(self.aside(), 0)

    def check_written_out(self, pages, aside):
        """So much is kept aside, and as much when the pages were written out."""
        self.assertEqual(self.aside(), aside)
        for page in pages:
            self.lead.tidy(page)
            self.assertEqual(self.aside(), aside)

    def test_rows_that_end(self):
        for pages in ([], PAGES):
            self.setUp()
            self.done(put(0, 1, 5) + put(4, 1, 9) + put(1, 2))
            first = self.begin()
            self.lead.tick(4)
            self.check_written_out(pages, 0)
            self.lead.tick(5)
            self.check_written_out(pages, 1)
            later = self.begin()
            self.check_written_out(pages, 1)
            self.lead.tick(9)
            self.check_written_out(pages, 2)
            self.done((("drop", 0), ("drop", 4)))
            self.check_written_out(pages, 2)
            self.lead.close(first)
            self.check_written_out(pages, 1)
            self.assertEqual(self.lead.read_page(later, 0), ((1, 2, 0),))
            self.assertEqual(self.lead.read_page(later, 1), ((4, 1, 9),))
            self.check_written_out(pages, 0)

    def test_rows_that_a_copy_never_had_and_that_end(self):
        for pages in ([], PAGES):
            self.setUp()
            self.done(put(1, 2))
            self.begin()
            self.done(put(0, 5, 1) + put(4, 5, 2))
            self.check_written_out(pages, 2)
            self.lead.tick(1)
            self.check_written_out(pages, 1)
            self.lead.tick(2)
            self.check_written_out(pages, 0)
            self.assertEqual([self.lead.kept_rows(page) for page in (0, 1)], [1, 0] if pages else [2, 1])
            self.assertEqual([self.lead.read_page(0, page) for page in (0, 1)], [((1, 2, 0),), ()])

    def test_a_row_put_over_one_that_has_ended(self):
        for pages in ([], PAGES):
            self.setUp()
            self.done(put(0, 1, 5))
            self.begin()
            self.lead.tick(5)
            self.begin()
            self.check_written_out(pages, 1)
            self.done(put(0, 1, 5))
            self.check_written_out(pages, 2)
            self.lead.tick(10)
            self.check_written_out(pages, 1)
            self.assertEqual(self.lead.read_page(0, 0), ((0, 1, 5),))
            self.assertEqual(self.lead.read_page(1, 0), ())
            self.check_written_out(pages, 0)

    def test_room_behind_all_pages_written_out(self):
        for life, moment, room in ((1, 1, (1, 2)), (5, 5, (1, 2)), (5, 4, (2, 2)), (0, 9, (2, 2))):
            lead = Lead(Disk(), 0)
            self.assertEqual(lead.copy(), (0, 0))
            lead.deal(0, 1, put(0, 5, life))
            self.assertEqual(lead.room(), (2, 1))
            lead.tick(moment)
            self.assertEqual(lead.room(), room)
            for page in PAGES:
                lead.tidy(page)
                self.assertEqual(lead.room(), room)
            self.assertEqual([lead.read_page(0, page) for page in PAGES], [()] * 8 + [(0, ())])
            self.assertEqual(lead.room(), (0, 2))

    def test_rows_that_were_tidied(self):
        self.done(put(0, 1, 5) + put(4, 1, 9))
        self.begin()
        self.lead.tick(5)
        self.begin()
        self.lead.tidy(0)
        self.assertEqual((self.lead.kept_rows(0), self.aside()), (0, 1))
        self.lead.tidy(1)
        self.assertEqual((self.lead.kept_rows(1), self.aside()), (1, 1))
        self.assertEqual(self.lead.read_page(1, 0), ())
        self.assertEqual(self.aside(), 1)
        self.assertEqual(self.lead.read_page(0, 0), ((0, 1, 5),))
        self.assertEqual(self.aside(), 0)

    def test_rows_that_were_tidied_and_changed_then(self):
        for deal in (put(0, 1, 5), put(0, 1), (("drop", 0),), put(0, 1, 5) + (("drop", 0),)):
            self.setUp()
            self.done(put(0, 1, 5) + put(1, 2, 5))
            self.begin()
            self.lead.tick(5)
            self.lead.tidy(0)
            self.done((("drop", 2), ("if", 0, None)))
            self.assertEqual((self.lead.kept_rows(0), self.aside()), (0, 1))
            self.done(deal)
            self.assertEqual(self.aside(), 1)
            self.lead.tidy(0)
            self.assertEqual((self.lead.kept_rows(0), self.aside()), (1 if deal[-1][0] == "put" else 0, 1))
            self.assertEqual(self.lead.read_page(0, 0), ((0, 1, 5), (1, 2, 5)))
            self.assertEqual(self.aside(), 0)

    def test_page_8(self):
        self.done(put(0, 1))
        self.lead.copy()
        self.assertEqual(self.aside(), 0)
        self.lead.tick(1)
        self.assertEqual(self.aside(), 1)
        self.lead.copy()
        self.assertEqual(self.aside(), 1)
        self.lead.deal(0, 1, (("if", 0, 9),))
        self.assertEqual(self.aside(), 2)
        self.lead.copy()
        self.lead.copy()
        self.lead.tick(2)
        self.assertEqual(self.aside(), 3)
        self.lead.read_page(2, 8)
        self.assertEqual(self.aside(), 3)
        self.assertEqual(self.lead.read_page(3, 8), (1, ((0, 1, 3, False), (1, 1, 1, True))))
        self.assertEqual(self.aside(), 2)
        self.lead.tidy(8)
        self.assertEqual(self.aside(), 2)

    def test_entries(self):
        lead = Lead(Disk(), 1)
        self.assertEqual(lead.room(), (0, 0))
        for letter in range(1, 40):
            lead.deal(0, letter, put(0, 1))
            self.assertLessEqual(lead.room()[1], min(16, lead.known()))
        for moment in range(1, 20):
            lead.tick(moment)
            self.assertLessEqual(lead.room()[1], 16)
            lead.tidy(moment % 9)
        self.assertGreater(lead.room()[1], 0)


class Walk(unittest.TestCase):
    """Copies while everything else goes on, beside the model."""

    def test_long_walk(self):
        for seed in range(40):
            self.chance = seeded(seed)
            self.lead, self.model = Lead(Disk(), 1), Model()
            for turn in range(120):
                what = self.chance.choice(["deals", "deals", "tick", "tidy", "copy", "page", "page", "page", "close"])
                getattr(self, "do_" + what)()
                self.assertTrue(is_model(self.lead, self.model), (seed, turn))
                self.assertEqual(self.lead.open_copies(), self.model.open_copies(), (seed, turn))
                self.assertEqual(self.lead.room(), (self.model.aside(), min(16, self.model.known())), (seed, turn))

    def do_deals(self):
        group = any_group(self.chance, self.model)
        self.assertEqual(self.lead.deals(group), [self.model.deal(*deal) for deal in group])

    def do_tick(self):
        moment = self.model.moment + self.chance.choice([1, 2, 9, 400])
        self.assertEqual(self.lead.tick(moment), self.model.tick(moment))

    def do_tidy(self):
        page = self.chance.randint(0, 8)
        # The model knows nothing of it: nothing but kept_rows is changed by it, room neither.
        self.lead.tidy(page)
        if page < 8:
            self.assertEqual(self.lead.kept_rows(page), len(self.model.page(page, self.model.moment)))

    def do_copy(self):
        if len(self.model.copies) < 6:
            self.assertEqual(self.lead.copy(), self.model.copy())

    def do_page(self):
        if self.model.copies:
            name = self.chance.choice(sorted(self.model.copies))
            page = self.chance.choice(sorted(self.model.copies[name][1]))
            self.assertEqual(self.lead.read_page(name, page), self.model.read_page(name, page))

    def do_close(self):
        if self.model.copies and self.chance.random() < 0.3:
            name = self.chance.choice(sorted(self.model.copies))
            self.lead.close(name)
            del self.model.copies[name]


if __name__ == "__main__":
    unittest.main()
