"""A plain second telling of the document, to compare the program with."""


class Model:
    """A table that is made of entries alone, as slow and as simple as can be."""

    def __init__(self):
        self.entries = []
        self.moment = 0
        self.rows = {}
        self.hands = {}
        self.copies = {}
        self.begun = 0

    def known(self):
        return len(self.entries)

    def letter(self, hand):
        return self.hands[hand][0] if hand in self.hands else 0

    def shows(self, key):
        for found, worth, end in self.page(key // 4, self.moment):
            if found == key:
                return worth
        return None

    def page(self, page, moment):
        if page == 8:
            return (self.moment, tuple((hand,) + self.hands[hand] for hand in sorted(self.hands)))
        return tuple((key, worth, end) for key, (worth, end) in sorted(self.rows.items())
                     if key // 4 == page and (end == 0 or end > moment))

    def whole(self):
        rows = [row for page in range(8) for row in self.page(page, self.moment)]
        return (self.moment, rows, list(self.page(8, 0)[1]))

    def deal(self, hand, letter, deal):
        if letter == self.letter(hand):
            return self.hands[hand][1:]
        before = dict(self.rows)
        done = True
        for deed in deal:
            if not self.deed(*deed):
                self.rows = before
                done = False
                break
        self.entries.append(("deal", hand, letter, deal))
        self.hands[hand] = (letter, len(self.entries), done)
        return self.hands[hand][1:]

    def deed(self, word, key, *parts):
        worth = self.shows(key)
        if word == "put":
            self.rows[key] = (parts[0], self.moment + parts[1] if parts[1] > 0 else 0)
        elif word == "drop":
            self.rows.pop(key, None)
        elif word == "add":
            if worth is None or worth + parts[0] < 0 or worth + parts[0] > 999:
                return False
            self.rows[key] = (worth + parts[0], self.rows[key][1])
        else:
            return worth == parts[0]
        return True

    def tick(self, moment):
        self.entries.append(("tick", moment))
        self.moment = moment
        return len(self.entries)

    def copy(self):
        name = self.begun
        self.begun += 1
        pages = {page: self.page(page, self.moment) for page in range(9)}
        self.copies[name] = (len(self.entries), pages)
        return (name, len(self.entries))

    def read_page(self, name, page):
        told = self.copies[name][1].pop(page)
        if not self.copies[name][1]:
            del self.copies[name]
        return told

    def open_copies(self):
        return [(name, number, sorted(pages)) for name, (number, pages) in sorted(self.copies.items())]

    def aside(self):
        # Rows that have ended are not told now, whatever a copy's moment: so it can't hang on tidy.
        return len({(page, told) for number, pages in self.copies.values()
                    for page, told in pages.items() if told != self.page(page, self.moment)})


def model_behind(entries, model=None):
    """The model behind these entries; a model that is handed in goes on by them."""
    model = model or Model()
    for entry in entries:
        if entry[0] == "tick":
            model.tick(entry[1])
        else:
            model.deal(*entry[1:])
    return model
