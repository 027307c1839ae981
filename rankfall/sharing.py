"""How coins are shared, and how a house pays its claims with them."""

from rankfall.books import need_house


def shared(amounts, coins):
    """What each amount gets of coins that are shared one by one."""
    whole = sum(amounts)
    coins = max(0, coins)
    if coins >= whole:
        return list(amounts)
    paid = _first_coins(amounts, coins)
    for _ in range(coins - sum(paid)):
        paid[_least_paid(amounts, paid)] += 1
    return paid


def _first_coins(amounts, coins):
    """What each amount has at a point of the sharing that is less than a coin for each amount from its end.

    The coins must be fewer than the amounts in all.
    """
    # Coins go out by rising part: an amount gets its coins at the parts 0, 1 / amount, 2 / amount and so on. When all
    # coins at parts below p / q have gone out, each amount therefore has amount * p / q coins, rounded up. With q all
    # amounts together these are p coins, and rounding up adds less than one for each amount: so, with the p taken
    # here, never more than there are.
    parts = max(0, coins - len(amounts) + 1)
    whole = sum(amounts)
    return [-(-amount * parts // whole) for amount in amounts]


def _least_paid(amounts, paid):
    """The number of the amount that gets the next coin; None if all are full."""
    least = None
    for number, amount in enumerate(amounts):
        # Crosswise products compare the parts exactly.
        if paid[number] < amount and (least is None or paid[number] * amounts[least] < paid[least] * amount):
            least = number
    return least


def paid_by(book, house, means):
    """What a house pays with its means: pairs (claim, coins) of all claims of which it is the debtor, rising."""
    need_house(book, house)
    _, claims = book
    return sorted(paid_with(debts_by_rank(claims, house), means))


def debts_by_rank(claims, house):
    """The claims of which a house is the debtor: for each rank, the least first, a pair (numbers, amounts)."""
    ranks = {}
    for number, (debtor, _, amount, rank) in enumerate(claims):
        if debtor == house:
            numbers, amounts = ranks.setdefault(rank, ([], []))
            numbers.append(number)
            amounts.append(amount)
    return [ranks[rank] for rank in sorted(ranks)]


def paid_with(debts, means):
    """What is paid with the means on debts by rank: pairs (claim, coins), of the least rank first."""
    paid = []
    for numbers, amounts in debts:
        shares = shared(amounts, means)
        means -= sum(shares)
        paid.extend(list(zip(numbers, shares)))
    return paid


def next_claim(debts, payments):
    """The claim that gets the next coin paid on debts by rank, as the payments are; None if all of them is paid."""
    for numbers, amounts in debts:
        least = _least_paid(amounts, [payments[number] for number in numbers])
        if least is not None:
            return numbers[least]
    return None
