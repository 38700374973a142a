"""Deals written as rows of text, and read again."""

from stillcopy.deeds import BOUNDS, check_deal, check_hand
from stillcopy.errors import BadText

FIGURES = "0123456789"
MOST_FIGURES = 4


def check_deals(deals):
    """BadHand or BadDeal for the first of the deals that can't be."""
    for hand, letter, deeds in deals:
        check_hand(hand)
        check_deal(deeds)


def written_deed(deed):
    """A deed's word and parts."""
    return " ".join(["-" if part is None else str(part) for part in deed])


def written_row(hand, letter, deeds):
    """The row of a deal."""
    told = "; ".join([written_deed(deed) for deed in deeds])
    return f"{hand} {letter}: {told}"


def written(deals):
    """The text of a list of (hand, letter, deal)."""
    check_deals(deals)
    return "\n".join([written_row(hand, letter, deeds) for hand, letter, deeds in deals])


def read_number(text, row):
    """The number that is written; BadText with the row if none is."""
    if not 1 <= len(text) <= MOST_FIGURES or not all([sign in FIGURES for sign in text]):
        raise BadText(row)
    if text[0] == "0" and len(text) > 1:
        raise BadText(row)
    return int(text)


def read_last(word, text, row):
    """The last part of a deed, which may be below 0 in an add, and None in an if."""
    if word == "if" and text == "-":
        return None
    if word == "add" and text.startswith("-") and text != "-0":
        return -read_number(text[1:], row)
    return read_number(text, row)


def read_deed(text, row):
    """The deed that is written; BadText with the row if none is."""
    word, *parts = text.split(" ")
    if word not in BOUNDS or len(parts) != len(BOUNDS[word]):
        raise BadText(row)
    numbers = [read_number(part, row) for part in parts[:-1]]
    return (word, *numbers, read_last(word, parts[-1], row))


def read_row(text, row):
    """(hand, letter, deal) of a row; BadText with the row if it is none."""
    head, colon, tail = text.partition(": ")
    numbers = head.split(" ")
    if not colon or len(numbers) != 2:
        raise BadText(row)
    hand = read_number(numbers[0], row)
    letter = read_number(numbers[1], row)
    return (hand, letter, tuple(read_deed(deed, row) for deed in tail.split("; ")))


def read_deals(text):
    """The list of (hand, letter, deal) that is written in the text."""
    if not text:
        return []
    deals = [read_row(told, row) for row, told in enumerate(text.split("\n"))]
    check_deals(deals)
    return deals
