"""Point 15: readings that can or can't have been told."""

import unittest

from stillcopy.errors import BadDeal, BadEntry, BadHand, BadKey
from stillcopy.judge import judge
from tests.helpers import any_entries, put, seeded
from tests.model import model_behind

BAD_NUMBERS = (-1, True, False, None, "0", -10 ** 19, 10 ** 19)
ENTRIES = [
    ("deal", 0, put(0, 5, 3) + put(1, 6)),
    ("tick", 2),
    ("deal", 1, (("add", 0, 1),)),
    ("tick", 3),
    ("deal", 0, (("put", 1, 9, 0), ("if", 0, 6))),
    ("deal", 3, (("drop", 1), ("put", 31, 0, 1))),
    ("tick", 10 ** 6),
]
# What keys 0, 1 and 31 show behind so many of the entries.
SHOWN = [
    (None, None, None), (5, 6, None), (5, 6, None), (6, 6, None), (None, 6, None), (None, 6, None), (None, None, 0),
    (None, None, None),
]


def without_letters(entries):
    """Entries as a lead has them, as judge takes them."""
    return [entry if entry[0] == "tick" else ("deal", entry[1], entry[3]) for entry in entries]


def plainly_judged(entries, readings):
    """The judgement over a lead's entries, made of the model."""
    last = {}
    for place, (hand, number, key, worth) in enumerate(readings):
        if number < 0 or number > len(entries) or number < last.get(hand, 0):
            return place
        if model_behind(entries[:number]).shows(key) != worth:
            return place
        last[hand] = number
    return None


class Judged(unittest.TestCase):
    def test_nothing_to_judge(self):
        self.assertIsNone(judge([], []))
        self.assertIsNone(judge(ENTRIES, []))

    def test_no_entries(self):
        self.assertIsNone(judge([], [(0, 0, 0, None), (3, 0, 31, None)]))
        self.assertEqual(judge([], [(0, 0, 0, 0)]), 0)
        self.assertEqual(judge([], [(0, 0, 0, None), (0, 1, 0, None)]), 1)
        self.assertEqual(judge([], [(0, -1, 0, None)]), 0)

    def test_each_number_and_key(self):
        for number, shown in enumerate(SHOWN):
            for key, worth in zip((0, 1, 31), shown):
                for told in (None, 0, 5, 6, 9, 999, -1, 1000, 10 ** 19):
                    expected = None if told == worth else 0
                    self.assertEqual(judge(ENTRIES, [(2, number, key, told)]), expected, (number, key, told))

    def test_numbers_that_there_are_not(self):
        for number in (-1, -2, 8, 9, -10 ** 19, 10 ** 19):
            for worth in (None, 0, 5):
                self.assertEqual(judge(ENTRIES, [(0, 7, 1, None), (1, number, 1, worth)]), 1)

    def test_numbers_of_a_hand_never_fall(self):
        self.assertIsNone(judge(ENTRIES, [(0, 1, 1, 6), (0, 1, 0, 5), (0, 3, 1, 6), (0, 3, 0, 6), (0, 7, 1, None)]))
        self.assertEqual(judge(ENTRIES, [(0, 3, 1, 6), (0, 2, 1, 6)]), 1)
        self.assertEqual(judge(ENTRIES, [(0, 1, 1, 6), (0, 0, 1, None)]), 1)
        self.assertEqual(judge(ENTRIES, [(0, 2, 1, 6), (0, 4, 1, 6), (0, 3, 1, 6), (0, 9, 1, 6)]), 2)

    def test_other_hands_go_by_themselves(self):
        self.assertIsNone(judge(ENTRIES, [(0, 7, 0, None), (1, 3, 0, 6), (2, 1, 0, 5), (3, 0, 0, None), (1, 4, 0, None)]))
        self.assertEqual(judge(ENTRIES, [(0, 7, 0, None), (1, 3, 0, 6), (0, 7, 1, None), (1, 2, 0, 5)]), 3)
        self.assertEqual(judge(ENTRIES, [(3, 5, 1, 6), (2, 0, 1, None), (3, 4, 1, 6)]), 2)

    def test_the_first_place(self):
        good, bad = (0, 1, 0, 5), (0, 1, 0, 6)
        for place in range(6):
            self.assertEqual(judge(ENTRIES, [good] * place + [bad, good, bad]), place)
        self.assertIs(type(judge(ENTRIES, [bad])), int)

    def test_rows_that_end_amid_the_entries(self):
        entries = [("deal", 0, put(8, 1, 2)), ("tick", 1), ("tick", 2), ("deal", 0, (("if", 8, None), ("put", 8, 2, 1))),
                   ("tick", 3), ("deal", 0, (("add", 8, 1),))]
        for number, worth in enumerate((None, 1, 1, None, 2, None, None)):
            self.assertIsNone(judge(entries, [(0, number, 8, worth)]))
            for other in (None, 1, 2, 3):
                if other != worth:
                    self.assertEqual(judge(entries, [(0, number, 8, other)]), 0)

    def test_truths_are_no_numbers(self):
        entries = [("deal", 0, put(0, 1) + put(1, 0))]
        self.assertIsNone(judge(entries, [(0, 1, 0, 1), (0, 1, 1, 0)]))
        self.assertEqual(judge(entries, [(0, 1, 0, True)]), 0)
        self.assertEqual(judge(entries, [(0, 1, 1, False)]), 0)
        self.assertEqual(judge(entries, [(0, True, 0, 1)]), 0)

    def test_nothing_handed_in_is_changed(self):
        entries = list(ENTRIES)
        readings = [(0, 1, 0, 5), (0, 7, 0, None), (0, 3, 0, 6)]
        handed, asked = list(entries), list(readings)
        self.assertEqual([judge(handed, asked), judge(handed, asked)], [2, 2])
        self.assertEqual((handed, asked), (entries, readings))
        handed.append(("tick", 1))
        self.assertRaises(BadEntry, judge, handed, asked)
        self.assertEqual((handed, asked), (entries + [("tick", 1)], readings))

    def test_long_walks(self):
        for seed in range(40):
            chance = seeded(seed)
            entries = any_entries(chance.randint(0, 30), seed)
            readings = []
            for at in range(chance.randint(0, 12)):
                number = min(len(entries), at * 3) + chance.choice([0, 0, 0, 0, 0, 1, -1])
                key = chance.randrange(0, 32, 3)
                worth = model_behind(entries[:max(0, number)]).shows(key) if chance.random() < 0.95 else 5
                readings.append((chance.randint(0, 3), number, key, worth))
            self.assertEqual(judge(without_letters(entries), readings), plainly_judged(entries, readings), seed)


class Refused(unittest.TestCase):
    def check_entry(self, error, entry, place=None):
        """The entry is refused at any place behind good ones, and ahead of all that comes behind."""
        for ahead in (0, 2, 4):
            for behind in ([], [("tick", 10 ** 6)], [("none",)], [("deal", 4, ())], [("deal", 0, ())]):
                for readings in ([], [(0, 9, 0, None)], [(4, 0, 99, None)]):
                    with self.assertRaises(error) as caught:
                        judge(ENTRIES[:ahead] + [entry] + behind, readings)
                    self.assertEqual(getattr(caught.exception, "place", None), place)

    def test_tuples_that_are_no_entries(self):
        good = put(0, 1)
        for entry in [(), ("tick",), ("tick", 9, 9), ("deal",), ("deal", 0), ("deal", 0, good, 1), ("deal", 0, 1, good),
                      ("put", 0, 1, 0), ("tock", 9), ("Tick", 9), ("ticks", 9), ("dea", 0, good), (None, 9),
                      (9, "tick"), ("tick", 9, None), (("tick", 9),), (0, good), ("", 0, good), ("tick", 0, good),
                      ("deal", 9), ("deal", 4), ("copy",), ("drop", 3), ("deal", 0, None), ("deal", 0, 5), good[0]]:
            self.check_entry(BadEntry, entry)

    def test_moments(self):
        for moment in (0, 10 ** 6 + 1, 10 ** 7, None, "9", (9,)) + BAD_NUMBERS:
            self.check_entry(BadEntry, ("tick", moment))
        for ahead, moment in [(2, 2), (2, 1), (4, 3), (4, 2), (7, 10 ** 6)]:
            self.assertRaises(BadEntry, judge, ENTRIES[:ahead] + [("tick", moment)], [])
        self.assertIsNone(judge([("tick", 1), ("tick", 2), ("tick", 10 ** 6)], [(0, 3, 0, None)]))

    def test_hands_of_deals(self):
        for hand in (4, 5) + BAD_NUMBERS:
            self.check_entry(BadHand, ("deal", hand, put(0, 1)))
            self.check_entry(BadHand, ("deal", hand, ()))
            self.check_entry(BadHand, ("deal", hand, put(0, 1000)))

    def test_deals(self):
        self.check_entry(BadDeal, ("deal", 0, ()), 0)
        self.check_entry(BadDeal, ("deal", 0, put(0, 1) * 5), 4)
        self.check_entry(BadDeal, ("deal", 0, put(0, 1) + put(32, 1)), 1)
        self.check_entry(BadDeal, ("deal", 0, put(0, 1) * 3 + (("add", 0, 1000),)), 3)
        self.check_entry(BadDeal, ("deal", 0, ("drop", 3)), 0)
        self.check_entry(BadDeal, ("deal", 3, (("if", 0, -1),)), 0)

    def test_the_first_of_the_entries(self):
        no_entry, no_hand, no_deal = ("none",), ("deal", 4, put(0, 1)), ("deal", 0, ())
        for first, error in ((no_entry, BadEntry), (no_hand, BadHand), (no_deal, BadDeal)):
            for second in (no_entry, no_hand, no_deal):
                self.assertRaises(error, judge, [("tick", 1), first, ("tick", 2), second], [(4, 0, 0, None)])

    def test_hands_and_keys_of_readings(self):
        bad_place = (0, 99, 0, 5)
        for number in (4, 5) + BAD_NUMBERS:
            for ahead in ([], [bad_place], [(0, 1, 0, 5)] * 3):
                self.assertRaises(BadHand, judge, ENTRIES, ahead + [(number, 0, 0, None), (0, 0, 32, None)])
                self.assertRaises(BadHand, judge, ENTRIES, ahead + [(number, 0, 32, None)])
        for key in (32, 33) + BAD_NUMBERS:
            for ahead in ([], [bad_place], [(0, 1, 0, 5)] * 3):
                self.assertRaises(BadKey, judge, ENTRIES, ahead + [(0, 0, key, None), (4, 0, 0, None)])
                self.assertRaises(BadKey, judge, [], ahead + [(0, 0, key, None)])

    def test_edges_that_are_good(self):
        self.assertIsNone(judge(ENTRIES, [(0, 0, 0, None), (3, 0, 31, None), (3, 6, 31, 0)]))


if __name__ == "__main__":
    unittest.main()
