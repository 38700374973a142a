"""Points 2 and 3: keys, rows and deals."""

import unittest

from stillcopy.disk import Disk
from stillcopy.errors import BadDeal
from stillcopy.lead import Lead
from tests.helpers import WatchedDisk, all_of, put


class Deals(unittest.TestCase):
    def setUp(self):
        self.disk = WatchedDisk()
        self.lead = Lead(self.disk, 0)
        self.letter = 0

    def done(self, *deeds):
        self.letter += 1
        number, done = self.lead.deal(0, self.letter, deeds)
        self.assertEqual(number, self.lead.known())
        return done

    def rows(self):
        return self.lead.whole()[1]

    def check_done(self, *deeds):
        self.assertIs(self.done(*deeds), True)

    def check_not_done(self, *deeds):
        before = self.rows()
        self.assertIs(self.done(*deeds), False)
        self.assertEqual(self.rows(), before)

    def test_put_at_its_edges(self):
        for key in (0, 31):
            for worth in (0, 999):
                for life in (0, 1, 1000):
                    self.check_done(("put", key, worth, life))
                    self.assertIn((key, worth, life), self.rows())
                    self.assertEqual(self.lead.read(key, 0)[1], worth)
        self.lead.tick(7)
        self.check_done(("put", 5, 1, 1), ("put", 6, 2, 1000), ("put", 7, 3, 0))
        self.assertEqual([row for row in self.rows() if row[0] in (5, 6, 7)], [(5, 1, 8), (6, 2, 1007), (7, 3, 0)])

    def test_put_at_the_last_moment(self):
        self.lead.tick(10 ** 6)
        self.check_done(("put", 0, 1, 1000))
        self.assertEqual(self.rows(), [(0, 1, 10 ** 6 + 1000)])

    def test_rows_end(self):
        self.check_done(("put", 0, 5, 1), ("put", 1, 6, 2), ("put", 2, 7, 0))
        self.assertEqual(self.rows(), [(0, 5, 1), (1, 6, 2), (2, 7, 0)])
        self.lead.tick(1)
        self.assertEqual(self.rows(), [(1, 6, 2), (2, 7, 0)])
        self.assertEqual(self.lead.read(0, 0)[1], None)
        self.lead.tick(2)
        self.assertEqual(self.rows(), [(2, 7, 0)])
        self.lead.tick(10 ** 6)
        self.assertEqual(self.rows(), [(2, 7, 0)])

    def test_put_over_a_row(self):
        self.check_done(("put", 3, 5, 10))
        self.check_done(("put", 3, 6, 0))
        self.lead.tick(100)
        self.assertEqual(self.rows(), [(3, 6, 0)])
        self.check_done(("put", 3, 6, 4))
        self.lead.tick(104)
        self.check_done(("put", 3, 8, 1))
        self.assertEqual(self.rows(), [(3, 8, 105)])

    def test_drop(self):
        self.check_done(("drop", 0))
        self.check_done(("put", 0, 5, 0), ("put", 31, 5, 9))
        self.check_done(("drop", 31))
        self.assertEqual(self.rows(), [(0, 5, 0)])
        self.check_done(("drop", 0), ("drop", 0))
        self.assertEqual(self.rows(), [])
        self.check_done(("put", 4, 5, 1))
        self.lead.tick(1)
        self.check_done(("drop", 4))
        self.assertEqual((self.rows(), self.lead.kept_rows(1)), ([], 0))

    def test_sums(self):
        for worth, more, summed in [(0, 0, 0), (5, -5, 0), (0, 999, 999), (999, -999, 0), (998, 1, 999), (500, 499, 999)]:
            self.check_done(("put", 9, worth, 0), ("add", 9, more))
            self.assertEqual(self.lead.read(9, 0)[1], summed)
        for worth, more in [(0, -1), (5, -6), (999, 1), (1, 999), (998, -999), (501, 499), (999, 999), (0, -999)]:
            self.check_done(("put", 9, worth, 0))
            self.check_not_done(("add", 9, more))
            self.assertEqual(self.lead.read(9, 0)[1], worth)

    def test_add_keeps_the_end(self):
        self.check_done(("put", 1, 5, 10))
        self.lead.tick(4)
        self.check_done(("add", 1, 2))
        self.assertEqual(self.rows(), [(1, 7, 10)])
        self.check_done(("put", 1, 5, 0), ("add", 1, -5))
        self.assertEqual(self.rows(), [(1, 0, 0)])

    def test_add_where_none_is_shown(self):
        self.check_not_done(("add", 1, 0))
        self.check_done(("put", 1, 5, 3))
        self.lead.tick(2)
        self.check_done(("add", 1, 1))
        self.lead.tick(3)
        self.check_not_done(("add", 1, 1))
        self.lead.tidy(0)
        self.check_not_done(("add", 1, 1))
        self.check_done(("put", 1, 5, 0), ("drop", 1))
        self.check_not_done(("add", 1, 0))

    def test_if(self):
        self.check_done(("if", 0, None))
        self.check_not_done(("if", 0, 0))
        self.check_done(("put", 0, 0, 2))
        self.check_done(("if", 0, 0))
        self.check_not_done(("if", 0, None))
        self.check_not_done(("if", 0, 1))
        self.lead.tick(2)
        self.check_done(("if", 0, None))
        self.check_not_done(("if", 0, 0))
        self.lead.tidy(0)
        self.check_done(("if", 0, None))
        self.check_not_done(("if", 0, 0))
        self.check_done(("put", 31, 999, 0), ("if", 31, 999))
        self.check_done(("drop", 31), ("if", 31, None))

    def test_deeds_in_turn(self):
        self.check_done(("if", 4, None), ("put", 4, 5, 0), ("add", 4, 1), ("if", 4, 6))
        self.check_done(("put", 4, 1, 0), ("drop", 4), ("put", 4, 2, 0), ("put", 4, 3, 0))
        self.assertEqual(self.rows(), [(4, 3, 0)])
        self.check_not_done(("drop", 4), ("add", 4, 1))
        self.check_not_done(("add", 4, 1), ("if", 4, 3))

    def test_nothing_is_done_of_a_deal_that_cannot_be(self):
        self.check_done(("put", 0, 5, 0), ("put", 8, 6, 9))
        for failing in [("if", 0, None), ("add", 1, 1), ("add", 0, 995), ("if", 8, 9)]:
            others = [("put", 1 + 30 * (failing[1] == 1), 7, 1), ("drop", 4), ("put", 20, 8, 0)]
            for place in range(4):
                self.check_not_done(*others[:place], failing, *others[place:])

    def test_deals_that_are_none(self):
        good = ("put", 0, 1, 0)
        bad = [
            (), ("put",), ("put", 0), ("put", 0, 1), ("put", 0, 1, 0, 0), ("put", -1, 1, 0), ("put", 32, 1, 0),
            ("put", 0, -1, 0), ("put", 0, 1000, 0), ("put", 0, 1, -1), ("put", 0, 1, 1001), ("put", None, 1, 0),
            ("put", 0, None, 0), ("put", 0, 1, None), ("put", "0", 1, 0), ("put", 0, "1", 0), ("put", 0, 1, "0"),
            ("put", True, 1, 0), ("put", False, 1, 0), ("put", 0, True, 0), ("put", 0, 1, False), ("put", 0, 1, True),
            ("drop",), ("drop", 0, 0), ("drop", 32), ("drop", -1), ("drop", None), ("drop", "1"), ("drop", True),
            ("drop", False), ("add",), ("add", 0), ("add", 0, 1, 1), ("add", 32, 1), ("add", -1, 1), ("add", 0, 1000),
            ("add", 0, -1000), ("add", 0, None), ("add", 0, "1"), ("add", 0, True), ("add", 0, False), ("add", True, 1),
            ("if",), ("if", 0), ("if", 0, 1, 1), ("if", 32, 1), ("if", -1, 1), ("if", 32, None), ("if", -1, None), ("if", None, 1),
            ("if", True, None), ("if", 0, 1000), ("if", 0, -1), ("if", 0, "-"), ("if", 0, True), ("if", 0, False),
            ("if", 0, None, None), ("Put", 0, 1, 0), ("",), ("read", 0), (None,), (None, 0, 1), (0, 0, 1), (5,),
            ("put", 10 ** 19, 1, 0), ("put", 0, 10 ** 19, 0), ("put", 0, 1, 10 ** 19), ("add", 0, -10 ** 19),
            ("put ", 0, 1, 0), ("put 0 1 0",),
        ]
        self.done(good)
        self.disk.asked = 0
        before = all_of(self.lead)
        for deed in bad:
            for place in range(4):
                for behind in [(), (good,), (deed,), (deed, ())]:
                    self.check_refused((good,) * place + (deed,) + behind, place)
        self.check_refused((), 0)
        self.check_refused(("drop", 0), 0)
        self.check_refused((good, "drop", 0), 1)
        self.check_refused((good, good, None), 2)
        for count in (5, 6, 9):
            self.check_refused((good,) * count, 4)
            self.check_refused((good, good, good, good) + (("none",),) * (count - 4), 4)
            self.check_refused((good, good, (), good) + (good,) * (count - 4), 2)
        self.assertEqual(all_of(self.lead), before)
        self.assertEqual(self.disk.asked, 0)

    def check_refused(self, deal, place):
        with self.assertRaises(BadDeal) as caught:
            self.lead.deal(0, self.letter + 1, deal)
        self.assertEqual(caught.exception.place, place, deal)

    def test_four_deeds_of_each_kind_at_their_edges(self):
        self.check_done(*[("put", key, 999, 1000) for key in (0, 10, 20, 31)])
        self.check_done(*[("add", key, -999) for key in (0, 10, 20, 31)])
        self.check_done(*[("if", key, 0) for key in (0, 10, 20, 31)])
        self.check_done(*[("add", key, 999) for key in (0, 10, 20, 31)])
        self.check_done(*[("drop", key) for key in (0, 10, 20, 31)])
        self.check_done(*[("if", key, None) for key in (0, 10, 20, 31)])

    def test_pages_of_keys(self):
        for key in range(32):
            self.check_done(("put", key, key, 0))
            self.assertEqual(self.lead.kept_rows(key // 4), key % 4 + 1)
        name, number = self.lead.copy()
        for page in range(8):
            self.assertEqual(self.lead.read_page(name, page), tuple((key, key, 0) for key in range(4 * page, 4 * page + 4)))

    def test_new_lead_is_empty(self):
        lead = Lead(Disk(), 0)
        self.assertEqual((lead.whole(), lead.clock()), ((0, [], []), 0))
        self.assertEqual(lead.deal(3, 1, put(0, 0)), (1, True))


if __name__ == "__main__":
    unittest.main()
