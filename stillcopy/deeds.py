"""Deals: what is one, and what rows are behind one."""

from stillcopy.errors import BadDeal, BadHand, BadKey
from stillcopy.limits import LAST_HAND, LAST_KEY, LAST_WORTH, MOST_DEEDS, within

# The words, each with the least and the greatest number that its parts may be.
BOUNDS = {
    "put": ((0, 31), (0, 999), (0, 1000)),
    "drop": ((0, 31),),
    "add": ((0, 31), (-999, 999)),
    "if": ((0, 31), (0, 999)),
}


def check_hand(hand):
    """BadHand if there is no such hand."""
    if not within(hand, 0, LAST_HAND):
        raise BadHand("there is no such hand")


def check_key(key):
    """BadKey if there is no such key."""
    if not within(key, 0, LAST_KEY):
        raise BadKey("there is no such key")


def is_deed(deed):
    """Whether this is a deed."""
    if not isinstance(deed, tuple) or not deed or deed[0] not in BOUNDS:
        return False
    word, *parts = deed
    bounds = BOUNDS[word]
    if len(parts) != len(bounds):
        return False
    if word == "if" and parts[1] is None:
        return within(parts[0], 0, LAST_KEY)
    return all([within(part, low, high) for part, (low, high) in zip(parts, bounds)])


def check_deal(deeds):
    """BadDeal, with the place of the first deed that is none, if this is no deal."""
    if not deeds:
        raise BadDeal(0)
    for place, deed in enumerate(deeds):
        if place == MOST_DEEDS or not is_deed(deed):
            raise BadDeal(place)


def is_shown(end, moment):
    """Whether a row with this end is shown at the moment."""
    return end == 0 or end > moment


def shown_worth(rows, key, moment):
    """The worth that the key shows, None for none."""
    if key not in rows:
        return None
    worth, end = rows[key]
    return worth if is_shown(end, moment) else None


def put_row(rows, parts, moment):
    """Does a put; it can always be done."""
    key, worth, life = parts
    rows[key] = (worth, moment + life if life else 0)
    return True


def drop_row(rows, parts, moment):
    """Does a drop; it can always be done."""
    rows.pop(parts[0], None)
    return True


def add_to_row(rows, parts, moment):
    """Does an add; tells whether it can be done."""
    key, more = parts
    worth = shown_worth(rows, key, moment)
    if worth is None or not within(worth + more, 0, LAST_WORTH):
        return False
    rows[key] = (worth + more, rows[key][1])
    return True


def does_show(rows, parts, moment):
    """Does an if: tells whether the key shows this worth."""
    key, worth = parts
    return shown_worth(rows, key, moment) == worth


ACTIONS = {"put": put_row, "drop": drop_row, "add": add_to_row, "if": does_show}


def rows_behind(rows, deeds, moment):
    """The rows behind a deal at this moment, None if one of its deeds can't be done."""
    behind = dict(rows)
    for word, *parts in deeds:
        action = ACTIONS[word]
        if not action(behind, parts, moment):
            return None
    return behind
