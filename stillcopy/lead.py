"""The lead: the house that takes deals and ticks."""

from stillcopy.copies import Shelf
from stillcopy.deeds import check_deal, check_hand
from stillcopy.errors import BadHouse, BadKey, BadLetter, BadTime
from stillcopy.limits import HANDS_PAGE, LAST_HAND, LAST_MOMENT, MOST_DEALS, MOST_ENTRIES, MOST_HOUSES, PAGES, within
from stillcopy.store import Store


def check_page(page):
    """BadKey if there is no such page."""
    if not within(page, 0, PAGES - 1):
        raise BadKey("there is no such page")


class Lead:
    """A table on a disk, its copies, and what is kept for its followers.

    All that is told is told from what is here, which is changed only behind
    the settling of it: so it still holds when the disk has stopped.
    """

    def __init__(self, disk, houses):
        self.store = Store(disk)
        if not within(houses, 0, MOST_HOUSES):
            raise BadHouse("there can't be so many followers")
        self.houses = houses
        self.table = self.store.stored_table()
        self.entries = self.store.last_entries()
        self.shelf = Shelf()
        # How much each follower knew at least, of those that were heard of.
        self.followers = {}
        self.store.claim()

    def known(self):
        """The number of the last entry."""
        return self.table.number

    def clock(self):
        """The moment."""
        return self.table.moment

    def deals(self, group):
        """Takes up to four (hand, letter, deal); tells (number, done) for each."""
        self.check_group(group)
        trial = self.table.twin()
        entries = []
        told = []
        for hand, letter, deeds in group:
            if letter != trial.last_letter(hand):
                entry = ("deal", hand, letter, deeds)
                trial.take(entry)
                entries.append((trial.number, entry))
            told.append(trial.hands[hand][1:])
        if entries:
            self.change_over(trial, self.table.unlike(trial), entries)
        return told

    def deal(self, hand, letter, deeds):
        """Takes one deal; tells (number, done)."""
        return self.deals([(hand, letter, deeds)])[0]

    def tick(self, moment):
        """Takes a later moment; tells the number of its entry."""
        if not within(moment, self.table.moment + 1, LAST_MOMENT):
            raise BadTime("the moment isn't later, or is too late")
        trial = self.table.twin()
        entry = ("tick", moment)
        trial.take(entry)
        self.change_over(trial, self.table.unlike(trial), [(trial.number, entry)])
        return trial.number

    def read(self, key, token):
        """(number, worth) of a key, for one that has seen as many entries as the token tells."""
        return self.table.told_of(key, token)

    def whole(self):
        """(moment, rows, hands): all that is shown."""
        return self.table.told_whole()

    def tidy(self, page):
        """Writes a page out without the rows that have ended."""
        check_page(page)
        trial = self.table.twin()
        trial.shed(page)
        self.change_over(trial, [(page, trial.kept(page))], [])

    def kept_rows(self, page):
        """How many rows are kept in a page, ended ones too; of page 8, how many hands."""
        check_page(page)
        if page == HANDS_PAGE:
            return len(self.table.hands)
        return len(self.table.kept(page))

    def copy(self):
        """Begins a copy; tells (name, number)."""
        return (self.shelf.begin(self.table), self.table.number)

    def read_page(self, name, page):
        """Tells a page that a copy wants, as it was when the copy was begun."""
        return self.shelf.read_out(self.table, name, page)

    def close(self, name):
        """Gives a copy up."""
        self.shelf.give_up(name)

    def open_copies(self):
        """(name, number, pages that are wanted) of all copies that aren't closed."""
        return self.shelf.listed()

    def room(self):
        """(aside, entries): how many page states and entries are kept."""
        return (self.shelf.count_aside(), len(self.entries))

    def letters(self, house):
        """The letters for a follower: the entries that it lacks, or all pages if not all of these are kept.

        They are ("entry", number, entry) and ("page", number, page, content),
        the table being the one behind so many entries. Both are the same for
        ever, so letters of several leads and times can't contradict each other.
        """
        self.check_house(house)
        number = self.table.number
        knows = self.followers.get(house, number)
        lacking = [("entry", at, entry) for at, entry in self.entries if at > knows]
        if len(lacking) >= number - knows:
            return lacking
        return [("page", number, page, self.table.shown(page)) for page in range(PAGES)]

    def heard(self, house, answer):
        """Takes a follower's answer, whose first part tells how many entries it knows."""
        self.check_house(house)
        # An answer may come late, but a follower never knows less than before.
        self.followers[house] = max(answer[0], self.followers.get(house, 0))

    def check_house(self, house):
        """BadHouse if there is no such follower."""
        if not within(house, 0, self.houses - 1):
            raise BadHouse("there is no such follower")

    def check_group(self, group):
        """Refuses a list of deals for the first that can't be taken."""
        if len(group) > MOST_DEALS:
            raise BadLetter("these are too many deals at once")
        ahead = {hand: self.table.last_letter(hand) for hand in range(LAST_HAND + 1)}
        for hand, letter, deeds in group:
            check_hand(hand)
            if not within(letter, max(1, ahead[hand]), ahead[hand] + 1):
                raise BadLetter("it is neither the last letter nor the next one")
            check_deal(deeds)
            ahead[hand] = letter

    def change_over(self, trial, pages, entries):
        """Settles what is new in the trial, and then takes it for the table."""
        self.store.put(trial.number, pages, entries)
        self.shelf.follow(self.table, trial)
        self.table = trial
        self.entries = (self.entries + entries)[-MOST_ENTRIES:]
