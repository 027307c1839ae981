"""Clearings: payments by which each house's claims have just what it pays with its means."""

from rankfall.books import need_book
from rankfall.errors import BadPayments
from rankfall.sharing import debts_by_rank, paid_by, paid_with


def left(book, payments):
    """What each house has left: its means less the payments of all claims of which it is the debtor."""
    _need_payments(book, payments)
    _, claims = book
    coins = means_by(book, payments)
    for (debtor, _, _, _), paid in zip(claims, payments):
        coins[debtor] -= paid
    return coins


def is_clearing(book, payments):
    """Whether each house's claims have just what it pays with its means."""
    _need_payments(book, payments)
    for house, means in enumerate(means_by(book, payments)):
        for claim, coins in paid_by(book, house, means):
            if payments[claim] != coins:
                return False
    return True


def best(book):
    """The clearing by which no claim has less than by any other one."""
    need_book(book)
    cash, _ = book
    return settled(book, all_paid(book), list(range(len(cash))))


def worst(book):
    """The clearing by which no claim has more than by any other one."""
    need_book(book)
    cash, claims = book
    return settled(book, [0] * len(claims), list(range(len(cash))))


def _need_payments(book, payments):
    """Refuse with BadBook what is no book, then with BadPayments numbers that are no payments."""
    need_book(book)
    _, claims = book
    if len(payments) != len(claims):
        raise BadPayments(f"{len(payments)} payments for {len(claims)} claims")
    for number, (_, _, amount, _) in enumerate(claims):
        if not 0 <= payments[number] <= amount:
            raise BadPayments(f"{payments[number]} coins for claim {number} of {amount}")


def all_paid(book):
    """The payments by which each claim has its whole amount."""
    _, claims = book
    return [amount for _, _, amount, _ in claims]


def means_by(book, payments):
    """The means of each house: its cash and the payments of all claims of which it is the creditor."""
    cash, claims = book
    means = list(cash)
    for (_, creditor, _, _), coins in zip(claims, payments):
        means[creditor] += coins
    return means


def settled(book, payments, payers):
    """Payments by which each of the payers pays with its means, reached from the given ones.

    The payments of other debtors stay as they are. The given payments must be such that no payer pays more with its
    means than its claims have by them, or such that none pays less.
    """
    # More means never pay a claim less. So from above, where payers pay less than their claims have, it only goes
    # down, and to no less than any payments by which the payers pay with their means: it ends at those by which no
    # claim has less. From below it ends in the same way at those by which none has more.
    cash, claims = book
    paid = list(payments)
    means = means_by(book, paid)
    debts = [debts_by_rank(claims, house) for house in range(len(cash))]
    waiting = list(payers)
    while waiting:
        touched = {}
        for house in waiting:
            for claim, coins in paid_with(debts[house], means[house]):
                if coins != paid[claim]:
                    _, creditor, _, _ = claims[claim]
                    means[creditor] += coins - paid[claim]
                    paid[claim] = coins
                    touched[creditor] = True
        waiting = [house for house in payers if house in touched]
    return paid
