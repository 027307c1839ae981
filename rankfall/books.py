"""Books: the coins that houses hold, and what they owe one another."""

from rankfall.errors import BadBook, NoHouse

MOST_HOUSES = 8
MOST_CASH = 999
MOST_CLAIMS = 24
MOST_AMOUNT = 999
MOST_RANK = 9


def need_book(book):
    """Refuse with BadBook what is no book, by the first thing that is wrong in it."""
    cash, claims = book
    houses = len(cash)
    if not 1 <= houses <= MOST_HOUSES:
        raise BadBook(0, "houses")
    for house, coins in enumerate(cash):
        if not 0 <= coins <= MOST_CASH:
            raise BadBook(house, "cash")
    if len(claims) > MOST_CLAIMS:
        raise BadBook(0, "claims")
    for number, claim in enumerate(claims):
        wrong = _wrong_in_claim(claim, houses)
        if wrong is not None:
            raise BadBook(number, wrong)


def _wrong_in_claim(claim, houses):
    """The word for the first wrong thing in a claim, or None."""
    debtor, creditor, amount, rank = claim
    if not (0 <= debtor < houses and 0 <= creditor < houses) or debtor == creditor:
        return "house"
    if not 1 <= amount <= MOST_AMOUNT:
        return "amount"
    if not 1 <= rank <= MOST_RANK:
        return "rank"
    return None


def need_house(book, house):
    """Refuse with BadBook what is no book, then with NoHouse a house that isn't in it."""
    need_houses(book, [house])


def need_houses(book, houses):
    """Refuse with BadBook what is no book, then with NoHouse the first of the houses that isn't in it."""
    need_book(book)
    cash, _ = book
    for house in houses:
        if not 0 <= house < len(cash):
            raise NoHouse(f"there is no house {house}")


def net(book):
    """What each house would have left if all paid all."""
    need_book(book)
    cash, claims = book
    left = list(cash)
    for debtor, creditor, amount, _ in claims:
        left[debtor] -= amount
        left[creditor] += amount
    return left


def owed(book, house):
    """What a house owes in all."""
    need_house(book, house)
    _, claims = book
    return sum([amount for debtor, _, amount, _ in claims if debtor == house])
