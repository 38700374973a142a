"""What a house has on its disk."""

from stillcopy.errors import Stopped
from stillcopy.limits import MOST_ENTRIES, PAGES
from stillcopy.table import Table

ROOT = 0
FIRST_ENTRY = 1
# A follower keeps no entries: what it gathers lies in their place.
FIRST_GATHERED = 1
FIRST_PAGE = 17

NEW_ROOT = (0, 0, (0, 0, 0, 0, 0, 0, 0, 0, 0))


def entry_block(number):
    """The block of an entry, the same for every sixteenth."""
    return FIRST_ENTRY + number % MOST_ENTRIES


def page_block(page, place):
    """The block of a page's place, which is 0 or 1."""
    return FIRST_PAGE + 2 * page + place


class Store:
    """A root, the last entries, and two places for each page.

    The root is (run, number, places): how many houses were made of the disk,
    the number of the last entry, and the place of each page that counts.
    Pages and entries are settled beside what counts; then the root, which is
    one block and so is written whole or not at all, makes them count at once.
    """

    def __init__(self, disk):
        self.disk = disk
        self.stops = disk.stops
        self.root = disk.read(ROOT) or NEW_ROOT

    def claim(self):
        """Makes the disk this house's own, which ends a house ahead."""
        run, number, places = self.root
        self.write_root((run + 1, number, places))

    def put(self, number, pages, entries):
        """Settles pages and entries; number is the last entry's behind them."""
        self.check_held()
        places = list(self.root[2])
        for page, content in pages:
            places[page] = 1 - places[page]
            self.disk.write(page_block(page, places[page]), content)
        for at, entry in entries:
            self.disk.write(entry_block(at), (at, entry))
        self.disk.settle()
        self.write_root((self.root[0], number, tuple(places)))

    def check_held(self):
        """Stopped if the disk stopped, or another house was made of it, since this one was."""
        if self.disk.stops != self.stops or self.disk.read(ROOT) != self.root:
            raise Stopped("the house is at its end")

    def write_root(self, root):
        """Changes over to this root."""
        self.disk.write(ROOT, root)
        self.disk.settle()
        self.root = root

    def stored_table(self):
        """The table that counts."""
        run, number, places = self.root
        table = Table()
        table.number = number
        for page in range(PAGES):
            content = self.disk.read(page_block(page, places[page]))
            # None is there where the page was never written out.
            if content is not None:
                table.fill(page, content)
        return table

    def last_entries(self):
        """(number, entry) of the last entries, as far back as all are there.

        A stopped deed may have put entries that do not count in the place of
        old ones. Their numbers, above the last one that counts, tell them.
        """
        found = []
        last = self.root[1]
        for number in range(last, max(0, last - MOST_ENTRIES), -1):
            block = self.disk.read(entry_block(number))
            if block[0] != number:
                break
            found.append(block)
        return found[::-1]

    def put_aside(self, number, page, content):
        """Settles a page of a later number beside the table."""
        self.check_held()
        self.disk.write(FIRST_GATHERED + page, (number, content))
        self.disk.settle()

    def gathered_pages(self):
        """(number, pages) of the latest number of which pages were put aside; pages tells their contents."""
        blocks = [self.disk.read(FIRST_GATHERED + page) for page in range(PAGES)]
        latest = max([0] + [block[0] for block in blocks if block])
        return (latest, {page: block[1] for page, block in enumerate(blocks) if block and block[0] == latest})
