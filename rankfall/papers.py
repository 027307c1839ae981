"""Papers: rows that show which houses fail; and what is lost by it."""

from rankfall.books import need_book, owed
from rankfall.clearing import all_paid, best, means_by, settled
from rankfall.falling import short_of_coins


def paper(book):
    """Rows (house, means, owed), each of the least house that can be shown then to fail."""
    need_book(book)
    payments = all_paid(book)
    fallen = []
    rows = []
    while short := short_of_coins(book, payments, fallen):
        house = short[0]
        rows.append(_row(book, payments, house))
        fallen.append(house)
        payments = settled(book, payments, fallen)
    return rows


def shows(book, rows):
    """Whether each row shows that its house fails, by those ahead."""
    need_book(book)
    payments = all_paid(book)
    fallen = []
    for row in rows:
        house, _, _ = row
        if house not in short_of_coins(book, payments, fallen) or row != _row(book, payments, house):
            return False
        fallen.append(house)
        payments = settled(book, payments, fallen)
    return True


def losses(book):
    """For each house, how much less than their amounts the claims of which it is the creditor get at best."""
    need_book(book)
    cash, claims = book
    lost = [0] * len(cash)
    for (_, creditor, amount, _), coins in zip(claims, best(book)):
        lost[creditor] += amount - coins
    return lost


def _row(book, payments, house):
    """The row of a house by these payments."""
    means = means_by(book, payments)
    return (house, means[house], owed(book, house))
