"""The table behind a number of entries."""

from stillcopy.deeds import check_key, is_shown, rows_behind, shown_worth
from stillcopy.errors import Behind
from stillcopy.limits import HANDS_PAGE, KEYS_OF_A_PAGE, PAGES


class Table:
    """The rows of the keys, the moment, and each hand's last letter.

    A row that has ended may stay in it for a while, or be let go: nothing but
    how many rows are kept tells which.
    """

    def __init__(self):
        self.number = 0
        self.moment = 0
        self.rows = {}
        self.hands = {}

    def twin(self):
        """A table like this one, which may go on by itself."""
        other = Table()
        other.number = self.number
        other.moment = self.moment
        other.rows = dict(self.rows)
        other.hands = dict(self.hands)
        return other

    def take(self, entry):
        """Goes on to the table behind one more entry, a deal's or a tick's."""
        self.number += 1
        if entry[0] == "tick":
            self.moment = entry[1]
        else:
            self.take_deal(entry)

    def take_deal(self, entry):
        """Does what is in a deal's entry, or nothing of it."""
        word, hand, letter, deeds = entry
        behind = rows_behind(self.rows, deeds, self.moment)
        if behind is not None:
            self.rows = behind
        self.hands[hand] = (letter, self.number, behind is not None)

    def told_of(self, key, token):
        """(number, worth) of a key, for one that has seen as many entries as the token tells."""
        check_key(key)
        if token > self.number:
            raise Behind(self.number)
        return (self.number, shown_worth(self.rows, key, self.moment))

    def told_whole(self):
        """(moment, rows, hands): all that is shown."""
        rows = [row for page in range(HANDS_PAGE) for row in self.shown(page)]
        return (self.moment, rows, list(self.hand_rows()))

    def last_letter(self, hand):
        """The hand's last letter, 0 if it has not dealt."""
        return self.hands[hand][0] if hand in self.hands else 0

    def page_rows(self, page):
        """All rows of a page of keys, ended ones too."""
        first = page * KEYS_OF_A_PAGE
        return tuple((key, *self.rows[key]) for key in range(first, first + KEYS_OF_A_PAGE) if key in self.rows)

    def hand_rows(self):
        """Each hand's last letter, with what it told."""
        return tuple((hand, *self.hands[hand]) for hand in sorted(self.hands))

    def kept(self, page):
        """The page as it is written out."""
        if page == HANDS_PAGE:
            return (self.moment, self.hand_rows())
        return self.page_rows(page)

    def shown(self, page):
        """What is told of the page: rows that have ended aren't, whether they are kept or not."""
        if page == HANDS_PAGE:
            return self.kept(page)
        return tuple(row for row in self.page_rows(page) if is_shown(row[2], self.moment))

    def unlike(self, other):
        """(page, content) of the other table's pages that are kept otherwise than this one's."""
        return [(page, other.kept(page)) for page in range(PAGES) if other.kept(page) != self.kept(page)]

    def fill(self, page, content):
        """Lays into the table what was kept of a page."""
        if page == HANDS_PAGE:
            self.moment, hand_rows = content
            for hand, letter, number, done in hand_rows:
                self.hands[hand] = (letter, number, done)
        else:
            for key, worth, end in content:
                self.rows[key] = (worth, end)

    def shed(self, page):
        """Lets the rows that have ended go from a page; page 8 has no rows that end."""
        for row in self.page_rows(page):
            if not is_shown(row[2], self.moment):
                del self.rows[row[0]]
