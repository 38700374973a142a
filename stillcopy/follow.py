"""A follower: a house that is led along by the letters of a lead."""

from stillcopy.limits import PAGES
from stillcopy.store import Store
from stillcopy.table import Table


def table_of(number, pages):
    """The table behind so many entries that these pages make."""
    table = Table()
    table.number = number
    for page, content in pages.items():
        table.fill(page, content)
    return table


class Follower:
    """The lead's table behind a number of entries, and pages of a later one that are gathered.

    All that is told is told from what is here, which is changed only behind
    the settling of it: so it still holds when the disk has stopped.
    """

    def __init__(self, disk):
        self.store = Store(disk)
        self.table = self.store.stored_table()
        self.gathered_number, self.gathered = self.store.gathered_pages()
        self.store.claim()

    def known(self):
        """The number of the last entry that it knows."""
        return self.table.number

    def clock(self):
        """The moment."""
        return self.table.moment

    def read(self, key, token):
        """(number, worth) of a key, for one that has seen as many entries as the token tells."""
        return self.table.told_of(key, token)

    def whole(self):
        """(moment, rows, hands): all that is shown."""
        return self.table.told_whole()

    def answer(self):
        """What the lead is to hear: how many entries are known."""
        return (self.table.number,)

    def hear(self, letter):
        """Takes a letter of the lead; one that is of no use now changes nothing."""
        self.store.check_held()
        if letter[0] == "entry":
            word, number, entry = letter
            self.hear_entry(number, entry)
        else:
            word, number, page, content = letter
            self.hear_page(number, page, content)

    def hear_entry(self, number, entry):
        """Goes on by an entry, if it is the next one."""
        if number == self.table.number + 1:
            trial = self.table.twin()
            trial.take(entry)
            self.change_over(trial)

    def hear_page(self, number, page, content):
        """Gathers a page of a later table, and goes on to this when all its pages are there."""
        if number <= self.table.number or number < self.gathered_number:
            return
        # Pages of unlike numbers make no table: those of the latest number alone are gathered.
        gathered = dict(self.gathered) if number == self.gathered_number else {}
        if page in gathered:
            return
        gathered[page] = content
        if len(gathered) == PAGES:
            self.change_over(table_of(number, gathered))
        else:
            self.store.put_aside(number, page, content)
            self.gathered_number = number
            self.gathered = gathered

    def change_over(self, trial):
        """Settles what is new in the trial, and then takes it for the table."""
        self.store.put(trial.number, self.table.unlike(trial), [])
        self.table = trial
