"""Judges whether readings can have been told of a row of entries."""

from stillcopy.deeds import check_deal, check_hand, check_key, rows_behind, shown_worth
from stillcopy.errors import BadEntry
from stillcopy.limits import LAST_MOMENT, LAST_WORTH, within


def check_entry(entry, moment):
    """BadEntry, BadHand or BadDeal if this can't be the next entry at the moment."""
    if len(entry) == 3 and entry[0] == "deal" and isinstance(entry[2], tuple):
        check_hand(entry[1])
        check_deal(entry[2])
    elif len(entry) != 2 or entry[0] != "tick" or not within(entry[1], moment + 1, LAST_MOMENT):
        raise BadEntry("it is no entry, or its moment isn't later, or is too late")


def tables_behind(entries):
    """(rows, moment) behind no entry, behind one, and so on."""
    rows = {}
    moment = 0
    tables = [(rows, moment)]
    for entry in entries:
        check_entry(entry, moment)
        if entry[0] == "tick":
            moment = entry[1]
        else:
            behind = rows_behind(rows, entry[2], moment)
            rows = rows if behind is None else behind
        tables.append((rows, moment))
    return tables


def shows(table, key, worth):
    """Whether the key shows this worth, None for none, in the table."""
    rows, moment = table
    # The bounds are asked, too, as True would equal 1.
    if worth is not None and not within(worth, 0, LAST_WORTH):
        return False
    return shown_worth(rows, key, moment) == worth


def judge(entries, readings):
    """The place of the first of the readings that can't be, None if all may be."""
    tables = tables_behind(entries)
    for hand, number, key, worth in readings:
        check_hand(hand)
        check_key(key)
    least = {}
    for place, (hand, number, key, worth) in enumerate(readings):
        if not within(number, least.get(hand, 0), len(entries)) or not shows(tables[number], key, worth):
            return place
        least[hand] = number
    return None
