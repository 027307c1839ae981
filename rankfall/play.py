"""Paying on: houses pay coins one by one, until nobody may."""

from rankfall.books import need_houses
from rankfall.sharing import debts_by_rank, next_claim


class Play:
    """The coins that each house holds and what is paid so far: at first its cash, and nothing."""

    def __init__(self, book):
        cash, claims = book
        self.claims = claims
        self.held = list(cash)
        self.payments = [0] * len(claims)
        self.debts = [debts_by_rank(claims, house) for house in range(len(cash))]
        self.unpaid = [0] * len(cash)
        for debtor, _, amount, _ in claims:
            self.unpaid[debtor] += amount

    def may_pay(self, house):
        """Whether the house holds a coin and owes something yet."""
        return self.held[house] > 0 and self.unpaid[house] > 0

    def least_payer(self):
        """The least house that may pay; None if nobody may."""
        for house in range(len(self.held)):
            if self.may_pay(house):
                return house
        return None

    def pay_coin(self, house):
        """Let the house pay one coin; it must be one that may."""
        claim = next_claim(self.debts[house], self.payments)
        _, creditor, _, _ = self.claims[claim]
        self.payments[claim] += 1
        self.unpaid[house] -= 1
        self.held[house] -= 1
        self.held[creditor] += 1


def stilled(book, picks):
    """The payments when nobody may pay any more: the picked houses pay first, one by one, then the least ones."""
    need_houses(book, picks)
    play = Play(book)
    for house in picks:
        if play.may_pay(house):
            play.pay_coin(house)
    while (least := play.least_payer()) is not None:
        play.pay_coin(least)
    return play.payments
