"""What a house has on its disk."""

from stillcopy.errors import Stopped
from stillcopy.limits import MOST_ENTRIES

ROOT = 0
FIRST_ENTRY = 1
FIRST_PAGE = 17

NEW_ROOT = (0, 0, (0, 0, 0, 0, 0, 0, 0, 0, 0))


def entry_block(number):
    """The block of an entry, the same for every sixteenth."""
    return FIRST_ENTRY + number % MOST_ENTRIES


def page_block(page, place):
    """The block of a page's place, which is 0 or 1."""
    return FIRST_PAGE + 2 * page + place


class Store:
    """A root, the last entries, and two places for each page.

    The root is (run, number, places): how many houses were made of the disk,
    the number of the last entry, and the place of each page that counts.
    Pages and entries are settled beside what counts; then the root, which is
    one block and so is written whole or not at all, makes them count at once.
    """

    def __init__(self, disk):
        self.disk = disk
        self.stops = disk.stops
        self.root = disk.read(ROOT) or NEW_ROOT

    def claim(self):
        """Makes the disk this house's own, which ends a house ahead."""
        run, number, places = self.root
        self.write_root((run + 1, number, places))

    def put(self, number, pages, entries):
        """Settles pages and entries; number is the last entry's behind them."""
        self.check_held()
        places = list(self.root[2])
        for page, content in pages:
            places[page] = 1 - places[page]
            self.disk.write(page_block(page, places[page]), content)
        for at, entry in entries:
            self.disk.write(entry_block(at), (at, entry))
        self.disk.settle()
        self.write_root((self.root[0], number, tuple(places)))

    def check_held(self):
        """Stopped if the disk stopped, or another house was made of it, since this one was."""
        if self.disk.stops != self.stops or self.disk.read(ROOT) != self.root:
            raise Stopped("the house is at its end")

    def write_root(self, root):
        """Changes over to this root."""
        self.disk.write(ROOT, root)
        self.disk.settle()
        self.root = root

    def last_number(self):
        """The number of the last entry that counts."""
        return self.root[1]

    def page_content(self, page):
        """The page as it was written out last, None if it never was."""
        return self.disk.read(page_block(page, self.root[2][page]))

    def last_entries(self):
        """(number, entry) of the last entries, as far back as all are there.

        A stopped deed may have put entries that do not count in the place of
        old ones. Their numbers, above the last one that counts, tell them.
        """
        found = []
        last = self.last_number()
        for number in range(last, max(0, last - MOST_ENTRIES), -1):
            block = self.disk.read(entry_block(number))
            if block[0] != number:
                break
            found.append(block)
        return found[::-1]
