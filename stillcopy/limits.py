"""The bounds that the document sets to numbers."""

LAST_KEY = 31
LAST_HAND = 3
LAST_WORTH = 999
LAST_MOMENT = 1000000

PAGES = 9
KEYS_OF_A_PAGE = 4
HANDS_PAGE = 8

MOST_DEEDS = 4
MOST_DEALS = 4
MOST_HOUSES = 3
MOST_ENTRIES = 16


def within(number, low, high):
    """Whether this is a number, which True and False are not, from low to high."""
    return isinstance(number, int) and not isinstance(number, bool) and low <= number <= high
