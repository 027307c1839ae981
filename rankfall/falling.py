"""Falling: which houses fail, in which waves, and by whom."""

from rankfall.books import need_book, need_house, owed
from rankfall.clearing import all_paid, best, means_by, settled


def failing(book):
    """The houses, rising, that by the best clearing don't pay all that they owe."""
    need_book(book)
    return short_of_coins(book, best(book), [])


def waves(book):
    """The houses that fail, in lists: each list those that fall by the ones ahead."""
    need_book(book)
    payments = all_paid(book)
    fallen = []
    found = []
    while wave := short_of_coins(book, payments, fallen):
        found.append(wave)
        fallen.extend(wave)
        # With more houses fallen no claim has more, so the payments so far are a start from above.
        payments = settled(book, payments, fallen)
    return found


def felled(book, house):
    """The others, rising, that fail when the house has no coins of its own, but don't fail as the book is."""
    need_house(book, house)
    cash, claims = book
    without = (cash[:house] + (0,) + cash[house + 1:], claims)
    already = failing(book)
    return [other for other in failing(without) if other != house and other not in already]


def needs(book, house):
    """The fewest coins that the house wants more, so that it doesn't fail."""
    need_house(book, house)
    cash, _ = book
    # Where the house stands, it pays all. So the payments by which it does, whatever its means, and all others pay
    # with theirs, are the most that it can count on; and with the coins that it lacks by them they are a clearing.
    others = [other for other in range(len(cash)) if other != house]
    payments = settled(book, all_paid(book), others)
    means = means_by(book, payments)
    return max(0, owed(book, house) - means[house])


def short_of_coins(book, payments, fallen):
    """The houses, rising, that haven't fallen and whose means are less than what they owe."""
    means = means_by(book, payments)
    return [house for house, coins in enumerate(means) if house not in fallen and coins < owed(book, house)]
