"""Point 16: deals written as rows, and read again."""

import re
import unittest

from stillcopy.disk import Disk
from stillcopy.errors import BadDeal, BadHand, BadText
from stillcopy.lead import Lead
from stillcopy.texts import read_deals, written
from tests.helpers import any_deal, put, seen, seeded

NUMBER = "(?:0|[1-9][0-9]{0,3})"
DEED = f"(?:put {NUMBER} {NUMBER} {NUMBER}|drop {NUMBER}|add {NUMBER} (?:{NUMBER}|-(?!0){NUMBER})|if {NUMBER} (?:{NUMBER}|-))"
ROW = re.compile(f"{NUMBER} {NUMBER}: {DEED}(?:; {DEED})*")
SIGNS = [chr(code) for code in range(32, 127) if chr(code) != "%"]
BAD_NUMBERS = (-1, True, False, 4, 5, -10 ** 19, 10 ** 19)
SAMPLE = "1 4: put 3 5 0; add 3 -2; if 7 -; drop 2"
BOUNDS = {"put": (31, 999, 1000), "drop": (31,), "add": (31, 999), "if": (31, 999)}

EDGES = [
    (("put", 0, 0, 0),), (("put", 31, 999, 1000),), (("drop", 0),), (("drop", 31),), (("add", 0, -999),),
    (("add", 31, 999),), (("add", 5, 0),), (("add", 5, -1),), (("add", 5, 1),), (("if", 0, 0),), (("if", 31, 999),),
    (("if", 0, None),), (("if", 31, None),), (("put", 10, 100, 10), ("drop", 10), ("add", 10, -10), ("if", 10, 10)),
    (("if", 3, None), ("if", 3, None)), (("drop", 1), ("drop", 2), ("drop", 3)),
]


def plain_row(row):
    """A row that the pattern knows, read by a plain walk over it."""
    head, deeds = row.split(": ")
    hand, letter = head.split(" ")
    deal = []
    for deed in deeds.split("; "):
        word, *parts = deed.split(" ")
        deal.append((word, *[None if part == "-" else int(part) for part in parts]))
    return (int(hand), int(letter), tuple(deal))


def plain_outcome(text):
    """What the document says of the text: the deals that it tells, or the refusal."""
    rows = text.split("\n") if text else []
    for at, row in enumerate(rows):
        if not ROW.fullmatch(row):
            return ("BadText", at)
    deals = [plain_row(row) for row in rows]
    for hand, letter, deal in deals:
        if hand > 3:
            return ("BadHand", None)
        for place, (word, *parts) in enumerate(deal):
            over = [part is not None and abs(part) > high for part, high in zip(parts, BOUNDS[word])]
            if place == 4 or any(over):
                return ("BadDeal", place)
    return deals


def outcome(text):
    """What the program says of the text."""
    try:
        return read_deals(text)
    except BadText as error:
        return ("BadText", error.row)
    except BadHand:
        return ("BadHand", None)
    except BadDeal as error:
        return ("BadDeal", error.place)


class Written(unittest.TestCase):
    def test_the_documents_row(self):
        deals = [(1, 4, (("put", 3, 5, 0), ("add", 3, -2), ("if", 7, None), ("drop", 2)))]
        self.assertEqual(written(deals), SAMPLE)
        self.assertEqual(read_deals(SAMPLE), deals)

    def test_no_deals(self):
        self.assertEqual(written([]), "")
        self.assertEqual(read_deals(""), [])

    def test_edges_of_each_word(self):
        for deal in EDGES:
            for hand in range(4):
                for letter in (1, 9, 10, 99, 100, 999, 1000, 9999):
                    text = written([(hand, letter, deal)])
                    self.assertEqual(plain_row(text), (hand, letter, deal))
                    self.assertEqual(read_deals(text), [(hand, letter, deal)])

    def test_rows_by_hand(self):
        for deal, row in [((("put", 31, 999, 1000),), "3 9999: put 31 999 1000"), ((("add", 0, -999),), "3 9999: add 0 -999"),
                          ((("if", 0, None),), "3 9999: if 0 -"), ((("if", 0, 0),), "3 9999: if 0 0"),
                          ((("drop", 0), ("drop", 31)), "3 9999: drop 0; drop 31")]:
            self.assertEqual(written([(3, 9999, deal)]), row)

    def test_several_rows(self):
        deals = [(at % 4, at + 1, deal) for at, deal in enumerate(EDGES)]
        text = written(deals)
        self.assertEqual(text, "\n".join([written([deal]) for deal in deals]))
        self.assertEqual(text.count("\n"), len(EDGES) - 1)
        self.assertEqual(read_deals(text), deals)

    def test_kinds(self):
        told = read_deals(SAMPLE + "\n" + SAMPLE)
        self.assertEqual([type(told), type(told[0]), type(told[0][2]), type(told[0][2][0])], [list, tuple, tuple, tuple])
        self.assertEqual([type(part) for part in told[0][2][1]], [str, int, int])
        self.assertIs(type(written([])), str)
        told.clear()
        self.assertEqual(len(read_deals(SAMPLE)), 1)

    def test_nothing_handed_in_is_changed(self):
        deals = [(0, 1, put(0, 1)), (1, 2, put(3, 4, 5))]
        handed = list(deals)
        written(handed)
        self.assertEqual(handed, deals)

    def test_any_deals(self):
        for seed in range(60):
            chance = seeded(seed)
            deals = [(chance.randint(0, 3), chance.randint(1, 9999), any_deal(chance, range(32)))
                     for at in range(chance.randint(0, 9))]
            self.assertEqual(read_deals(written(deals)), deals)

    def test_letters_below_one_are_read(self):
        self.assertEqual(read_deals("0 0: drop 1"), [(0, 0, (("drop", 1),))])

    def test_a_lead_deals_alike_by_both(self):
        chance = seeded(3)
        one, other = Lead(Disk(), 0), Lead(Disk(), 0)
        for letter in range(1, 30):
            group = [(hand, letter, any_deal(chance)) for hand in range(4)]
            self.assertEqual(one.deals(group), other.deals(read_deals(written(group))))
            self.assertEqual(seen(one), seen(other))


class RefusedDeals(unittest.TestCase):
    def test_hands(self):
        for hand in BAD_NUMBERS:
            for deal in (put(0, 1), (), put(0, 1000)):
                self.assertRaises(BadHand, written, [(0, 1, put(0, 1)), (hand, 1, deal), (0, 1, ())])

    def test_deals(self):
        for deal, place in [((), 0), (put(0, 1) * 5, 4), (put(32, 1), 0), (put(0, 1) + (("if", 0),), 1), ((("add", 0, 1000),), 0),
                            (put(0, 1) * 3 + (("cut", 1),), 3), ((("drop", None),), 0), ((("put", 0, None, 0),), 0),
                            (put(0, 1) + put(0, True), 1)]:
            with self.assertRaises(BadDeal) as caught:
                written([(0, 1, put(0, 1)), (1, 1, deal), (4, 1, put(0, 1))])
            self.assertEqual(caught.exception.place, place)
            self.assertRaises(BadHand, written, [(4, 1, put(0, 1)), (1, 1, deal)])


class ReadRefused(unittest.TestCase):
    def check_no_row(self, row):
        """The row is refused at each place among good ones, ahead of hands and deals that can't be."""
        for ahead in (0, 1, 3):
            for other in ("0 1: drop 3", "4 1: drop 3", "0 1: drop 32"):
                text = "\n".join([other] * ahead + [row] + [other, row])
                with self.assertRaises(BadText, msg=row) as caught:
                    read_deals(text)
                self.assertEqual(caught.exception.row, ahead)

    def test_the_pattern_knows_good_rows(self):
        for deal in EDGES:
            self.assertTrue(ROW.fullmatch(written([(3, 9999, deal)])))

    def test_numbers_that_are_none(self):
        for number in ("00", "01", "007", "0000", "-0", "-1", "-", "--1", "+1", "10000", "99999", "12345678901", "1_0", "", "a",
                       "0x1", "1.0", " 1", "1 ", "None", "True", "1-", "-00", "-01"):
            for row in ("{} 1: drop 3", "1 {}: drop 3", "1 1: drop {}", "1 1: put {} 2 3", "1 1: put 2 {} 3", "1 1: put 2 2 {}",
                        "1 1: if {} 2", "1 1: add {} 2", "1 1: drop 1; put 1 1 {}"):
                self.check_no_row(row.format(number))
        for number in ("-0", "-00", "-01", "-10000", "--1", "-", "+1", "00", "10000", "- 1", "-a", ""):
            self.check_no_row(f"1 1: add 3 {number}")
        for number in ("--", "-0", "-1", "-00", "00", "10000", "None", "", "- -"):
            self.check_no_row(f"1 1: if 3 {number}")

    def test_parts_and_words(self):
        for deed in ("put", "put 1", "put 1 2", "put 1 2 3 4", "drop", "drop 1 2", "add", "add 1", "add 1 2 3", "if", "if 1",
                     "if 1 2 3", "if -", "cut 1", "Put 1 2 3", "puts 1 2 3", "pu 1 2 3", "1", "", "drop1", "get 1", "tick 1", ";"):
            for row in (f"1 1: {deed}", f"1 1: {deed}; drop 1", f"1 1: drop 1; {deed}", f"1 1: drop 1; {deed}; drop 1"):
                self.check_no_row(row)

    def test_rows_in_disorder(self):
        for row in ("", " ", "1", "1 1", "1 1:", "1 1: ", "1: drop 1", "1 1 1: drop 1", ": drop 1", "1 1 drop 1", "1 1:drop 1",
                    "1 1 : drop 1", "1  1: drop 1", " 1 1: drop 1", "1 1: drop 1 ", "1 1:  drop 1", "1 1: drop  1", "1 1; drop 1",
                    "1 1: drop 1;", "1 1: drop 1; ", "1 1: drop 1;drop 2", "1 1: drop 1 ; drop 2", "1 1: drop 1;  drop 2",
                    "1 1: drop 1, drop 2", "1 1: ; drop 1", "1 1: drop 1;; drop 2", "1 1: drop 1: drop 2", "1 1: 1 1: drop 1",
                    "drop 1", "1 1: drop 1; ; drop 2", "1\t1: drop 1"):
            self.check_no_row(row)

    def test_line_ends(self):
        good = "0 1: drop 3"
        for text, row in [(good + "\n", 1), ("\n" + good, 0), ("\n", 0), ("\n\n", 0), (good + "\n\n" + good, 1),
                          (good + "\r\n" + good, 0), (good + "\r" + good, 0), (good + "\n" + good + "\r", 1),
                          (good + "\n" + good + "\n", 2), (good + "\x0b" + good, 0), (good + "\x0c" + good, 0),
                          (good + "\x1e" + good, 0), (good + "\u2028" + good, 0), (good + "\x85" + good, 0)]:
            with self.assertRaises(BadText) as caught:
                read_deals(text)
            self.assertEqual(caught.exception.row, row)

    def test_other_figures(self):
        for figure in ("\u00b2", "\u0663", "\uff13"):
            self.check_no_row(f"1 1: drop {figure}")

    def test_hands_and_deals(self):
        for text, expected in [
                ("4 1: drop 3", ("BadHand", None)), ("9999 1: drop 9999", ("BadHand", None)), ("0 1: drop 32", ("BadDeal", 0)),
                ("0 1: drop 32\n4 1: drop 3", ("BadDeal", 0)), ("4 1: drop 3\n0 1: drop 32", ("BadHand", None)),
                ("0 1: drop 1; put 3 1000 0", ("BadDeal", 1)), ("0 1: drop 1; drop 2; put 3 999 1001", ("BadDeal", 2)),
                ("0 1: add 3 1000", ("BadDeal", 0)), ("0 1: add 3 -1000", ("BadDeal", 0)), ("0 1: add 3 -9999", ("BadDeal", 0)),
                ("0 1: if 3 1000", ("BadDeal", 0)), ("0 1: if 32 -", ("BadDeal", 0)),
                ("0 1: drop 1; drop 2; drop 3; drop 4; drop 5", ("BadDeal", 4)),
                ("0 1: drop 1; drop 2; drop 3; drop 32; drop 5; drop 6", ("BadDeal", 3)),
                ("0 1: drop 1\n4 1: drop 32\n0 1: drop", ("BadText", 2))]:
            self.assertEqual((plain_outcome(text), outcome(text)), (expected, expected), text)

    def test_a_sign_too_many_too_few_or_exchanged(self):
        others = ["0 1: drop 3", "4 1: drop 3", "0 1: drop 32"]
        kinds = set()
        for row in (SAMPLE, "0 9999: put 31 999 1000", "3 10: if 0 0; add 31 -999"):
            for at in range(len(row) + 1):
                changed = [row[:at] + sign + row[at:] for sign in SIGNS + ["\n", "\r", "\t"]]
                changed += [row[:at] + sign + row[at + 1:] for sign in SIGNS + ["", "\n", "\r"]]
                changed += [row[:at] + row[at:at + 2][::-1] + row[at + 2:]]
                for at_other, text in enumerate(changed):
                    for whole in (text, "\n".join([others[at_other % 3], text])):
                        expected = plain_outcome(whole)
                        self.assertEqual(outcome(whole), expected, whole)
                        kinds.add(expected[0] if isinstance(expected, tuple) else "read")
        self.assertEqual(kinds, {"BadText", "BadHand", "BadDeal", "read"})


if __name__ == "__main__":
    unittest.main()
