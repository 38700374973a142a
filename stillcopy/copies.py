"""Copies of one moment, which are read page by page while the table goes on."""

from stillcopy.errors import NoCopy
from stillcopy.limits import PAGES, within


class Copy:
    """A copy that is begun: the pages that it wants, and those of them that are kept aside."""

    def __init__(self, number):
        self.number = number
        self.wanted = list(range(PAGES))
        self.aside = {}

    def page_of(self, table, page):
        """What the copy is to tell of the page, the table being the present one."""
        if page in self.aside:
            return self.aside[page]
        return table.shown(page)

    def follow(self, old, new):
        """Keeps aside just what the new table doesn't tell any more."""
        for page in self.wanted:
            told = self.page_of(old, page)
            # A row that has ended is not told now, though the copy's moment may be ahead of its end:
            # else what is kept aside would hang on whether the row was written out.
            if told == new.shown(page):
                self.aside.pop(page, None)
            else:
                self.aside[page] = told

    def let_go(self, page):
        """Wants this page no more."""
        self.wanted.remove(page)
        self.aside.pop(page, None)


class Shelf:
    """The copies of a lead that aren't closed yet."""

    def __init__(self):
        self.begun = 0
        self.copies = {}

    def begin(self, table):
        """Begins a copy of the table and tells its name."""
        name = self.begun
        self.begun += 1
        self.copies[name] = Copy(table.number)
        return name

    def find_copy(self, name):
        """The copy of this name; NoCopy if there is none."""
        # The bounds are asked, too, as True would be found as 1.
        if not within(name, 0, self.begun) or name not in self.copies:
            raise NoCopy("there is no such copy")
        return self.copies[name]

    def read_out(self, table, name, page):
        """Tells a page of a copy, which wants it no more then."""
        found = self.find_copy(name)
        if not within(page, 0, PAGES - 1) or page not in found.wanted:
            raise NoCopy("the copy doesn't want this page")
        told = found.page_of(table, page)
        found.let_go(page)
        if not found.wanted:
            self.give_up(name)
        return told

    def give_up(self, name):
        """Closes a copy."""
        self.find_copy(name)
        del self.copies[name]

    def follow(self, old, new):
        """Keeps aside what the copies need of the old table."""
        for found in self.copies.values():
            found.follow(old, new)

    def listed(self):
        """(name, number, pages) of all copies by their names."""
        return [(name, self.copies[name].number, list(self.copies[name].wanted)) for name in sorted(self.copies)]

    def count_aside(self):
        """How many unlike page states are kept aside."""
        return len({pair for found in self.copies.values() for pair in found.aside.items()})
