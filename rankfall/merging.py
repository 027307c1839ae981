"""Merging: two houses of a book become one."""

from rankfall.books import need_book, need_houses
from rankfall.errors import NoHouse


def merged(book, one, other):
    """A book in which two unlike houses are one, with the lesser number and both their coins."""
    need_houses(book, [one, other])
    if one == other:
        raise NoHouse(f"house {one} is the same house twice")
    cash, claims = book
    lesser, greater = sorted([one, other])
    coins = list(cash)
    coins[lesser] += coins[greater]
    del coins[greater]
    numbers = [_number_in_merged(house, lesser, greater) for house in range(len(cash))]
    kept = []
    for debtor, creditor, amount, rank in claims:
        if numbers[debtor] != numbers[creditor]:
            kept.append((numbers[debtor], numbers[creditor], amount, rank))
    together = (tuple(coins), tuple(kept))
    # Both their coins may be more than one house may hold.
    need_book(together)
    return together


def _number_in_merged(house, lesser, greater):
    """The number of a house once the greater one is one with the lesser one."""
    if house == greater:
        return lesser
    if house > greater:
        return house - 1
    return house
