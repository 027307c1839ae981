"""The document's words done as plainly as can be, to hold the program against. Nothing here refuses anything."""

from fractions import Fraction
from functools import lru_cache
from itertools import product


@lru_cache(maxsize=None)
def _coin_by_coin(amounts, coins):
    paid = [0] * len(amounts)
    for _ in range(coins):
        parts = [(Fraction(paid[k], amounts[k]), k) for k in range(len(amounts)) if paid[k] < amounts[k]]
        if parts:
            paid[min(parts)[1]] += 1
    return tuple(paid)


def coin_by_coin(amounts, coins):
    """The sharing as the document tells it, one coin after the other."""
    return list(_coin_by_coin(tuple(amounts), coins))


def paid_plainly(book, house, means):
    """What the house pays, rank by rank, with the plain sharing above."""
    found = []
    for rank in range(1, 10):
        numbers = [n for n, claim in enumerate(book[1]) if claim[0] == house and claim[3] == rank]
        got = coin_by_coin([book[1][n][2] for n in numbers], means)
        means -= sum(got)
        found += zip(numbers, got)
    return sorted(found)


def houses_of(book):
    return list(range(len(book[0])))


def owed_plainly(book, house):
    return sum(claim[2] for claim in book[1] if claim[0] == house)


def means_plainly(book, payments, house):
    got = [coins for claim, coins in zip(book[1], payments) if claim[1] == house]
    return book[0][house] + sum(got)


def all_payments(book):
    """All payments that there are, one by one."""
    for payments in product(*[range(claim[2] + 1) for claim in book[1]]):
        yield list(payments)


def stepped(book, payments, payers):
    """What all claims get where the payers pay with their means by the payments, and all others pay all."""
    found = [claim[2] for claim in book[1]]
    for house in payers:
        for claim, coins in paid_plainly(book, house, means_plainly(book, payments, house)):
            found[claim] = coins
    return found


def clears(book, payments):
    return stepped(book, payments, houses_of(book)) == list(payments)


def clearings(book):
    """All clearings that there are, found by walking all payments."""
    return [payments for payments in all_payments(book) if clears(book, payments)]


def most_of(many):
    """The one of many payments by which no claim has less than by any other."""
    top = [max(column) for column in zip(*many)]
    assert top in many
    return top


def walked_most(book, payers):
    """The payments of point 7, found by walking all payments: the payers have fallen."""
    return most_of([payments for payments in all_payments(book) if stepped(book, payments, payers) == payments])


def stepped_most(book, payers):
    """The payments of point 7 for books with too many payments to walk: steps down from all paid."""
    payments = [claim[2] for claim in book[1]]
    while (after := stepped(book, payments, payers)) != payments:
        payments = after
    return payments


def best_plainly(book):
    return stepped_most(book, houses_of(book))


def worst_plainly(book):
    payments = [0] * len(book[1])
    while (after := stepped(book, payments, houses_of(book))) != payments:
        payments = after
    return payments


def failing_plainly(book):
    payments = best_plainly(book)
    found = []
    for house in houses_of(book):
        paid = sum(coins for claim, coins in zip(book[1], payments) if claim[0] == house)
        if paid < owed_plainly(book, house):
            found.append(house)
    return found


def next_to_fall(book, fallen, most=stepped_most):
    """Pairs (house, means) of those that haven't fallen and whose means are less than what they owe."""
    payments = most(book, fallen)
    told = [(house, means_plainly(book, payments, house)) for house in houses_of(book) if house not in fallen]
    return [(house, means) for house, means in told if means < owed_plainly(book, house)]


def waves_plainly(book, most=stepped_most):
    fallen, found = [], []
    while wave := [house for house, _ in next_to_fall(book, fallen, most)]:
        found.append(wave)
        fallen += wave
    return found


def paper_plainly(book, most=stepped_most):
    rows = []
    while told := next_to_fall(book, [row[0] for row in rows], most):
        house, means = told[0]
        rows.append((house, means, owed_plainly(book, house)))
    return rows


def shows_plainly(book, rows):
    for at, (house, means, owed) in enumerate(rows):
        if house not in houses_of(book):
            return False
        ahead = [row[0] for row in rows[:at]]
        if (house, means) not in next_to_fall(book, ahead) or owed != owed_plainly(book, house):
            return False
    return True


def with_coins(book, house, coins):
    """The book in which the house has just these coins, however many."""
    cash = list(book[0])
    cash[house] = coins
    return (tuple(cash), book[1])


def needs_plainly(book, house):
    """Coin by coin until the house doesn't fail."""
    more = 0
    while house in failing_plainly(with_coins(book, house, book[0][house] + more)):
        more += 1
    return more


def felled_plainly(book, house):
    before = failing_plainly(book)
    after = failing_plainly(with_coins(book, house, 0))
    return [other for other in after if other != house and other not in before]


def losses_plainly(book):
    payments = best_plainly(book)
    lost = []
    for house in houses_of(book):
        lost.append(sum(claim[2] - coins for claim, coins in zip(book[1], payments) if claim[1] == house))
    return lost


def paid_on_plainly(book, held, payments, house):
    """Let the house pay one coin, if it may, and tell whether it did."""
    open_claims = []
    for claim, (debtor, _, amount, rank) in enumerate(book[1]):
        if debtor == house and payments[claim] < amount:
            open_claims.append((rank, Fraction(payments[claim], amount), claim))
    if held[house] == 0 or not open_claims:
        return False
    _, _, claim = min(open_claims)
    payments[claim] += 1
    held[house] -= 1
    held[book[1][claim][1]] += 1
    return True


def stilled_plainly(book, picks):
    """Coin by coin: those picked, then the least house that may, as long as anybody may."""
    held, payments = list(book[0]), [0] * len(book[1])
    for house in picks:
        paid_on_plainly(book, held, payments, house)
    while any(paid_on_plainly(book, held, payments, house) for house in houses_of(book)):
        pass
    return payments


def played_plainly(book, moves):
    """A tuple of payments and coins held; or the number of the first move that doesn't fit."""
    held, payments = list(book[0]), [0] * len(book[1])
    for number, (word, what, coins) in enumerate(moves):
        numbers = [what] if word == "pay" else list(what)
        if coins < 1 or any(claim not in range(len(book[1])) for claim in numbers):
            return number
        if any(payments[claim] + coins > book[1][claim][2] for claim in numbers):
            return number
        debtors = [book[1][claim][0] for claim in numbers]
        creditors = [book[1][claim][1] for claim in numbers]
        if word == "ring":
            if len(numbers) < 2 or len(set(numbers)) != len(numbers) or creditors != debtors[1:] + debtors[:1]:
                return number
        elif coins > held[debtors[0]]:
            return number
        else:
            held[debtors[0]] -= coins
            held[creditors[0]] += coins
        for claim in numbers:
            payments[claim] += coins
    return payments, held


def merged_plainly(book, one, other):
    """The merged book, whatever coins come together."""
    lesser, greater = min(one, other), max(one, other)
    names = [lesser if house == greater else house for house in houses_of(book)]
    order = sorted(set(names))
    cash = tuple(sum(book[0][k] for k in houses_of(book) if names[k] == house) for house in order)
    claims = []
    for debtor, creditor, amount, rank in book[1]:
        if {debtor, creditor} != {one, other}:
            claims.append((order.index(names[debtor]), order.index(names[creditor]), amount, rank))
    return cash, tuple(claims)


def renumbered(book, numbers):
    """The book in which each house has the number that stands at its place in the list."""
    cash = [0] * len(numbers)
    for house, number in enumerate(numbers):
        cash[number] = book[0][house]
    claims = [(numbers[debtor], numbers[creditor], amount, rank) for debtor, creditor, amount, rank in book[1]]
    return tuple(cash), tuple(claims)


def side_by_side(one, other):
    """One book of two that have nothing to do with one another."""
    shift = len(one[0])
    moved = [(debtor + shift, creditor + shift, amount, rank) for debtor, creditor, amount, rank in other[1]]
    return (one[0] + other[0], one[1] + tuple(moved))
