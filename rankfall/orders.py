"""Orders: moves by which coins are paid and rings are set off."""

from rankfall.books import need_book
from rankfall.clearing import best
from rankfall.errors import NoMove


def played(book, moves):
    """What moves done one by one come to: the payments, and the coins that each house holds."""
    need_book(book)
    cash, claims = book
    payments = [0] * len(claims)
    held = list(cash)
    for number, move in enumerate(moves):
        if not _fits(claims, payments, held, move):
            raise NoMove(number)
        _make_move(claims, payments, held, move)
    return (payments, held)


def _fits(claims, payments, held, move):
    """Whether the move can be done when so much is paid and held."""
    word, what, coins = move
    if word == "ring":
        return _are_owed(claims, payments, what, coins) and _is_ring(claims, what)
    if word == "pay" and _are_owed(claims, payments, (what,), coins):
        debtor, _, _, _ = claims[what]
        return coins <= held[debtor]
    return False


def _are_owed(claims, payments, numbers, coins):
    """Whether the numbers are claims, of each of which one coin or more, so many as told, are owed yet."""
    if coins < 1:
        return False
    for number in numbers:
        if not 0 <= number < len(claims):
            return False
        _, _, amount, _ = claims[number]
        if coins > amount - payments[number]:
            return False
    return True


def _is_ring(claims, numbers):
    """Whether the claims are two or more, each once, and each one leads on to the next, the last to the first."""
    if len(numbers) < 2 or len(set(numbers)) < len(numbers):
        return False
    _, house, _, _ = claims[numbers[-1]]
    for number in numbers:
        debtor, creditor, _, _ = claims[number]
        if debtor != house:
            return False
        house = creditor
    return True


def _make_move(claims, payments, held, move):
    """Change payments and held by a move that fits."""
    word, what, coins = move
    if word == "ring":
        for number in what:
            payments[number] += coins
    else:
        debtor, creditor, _, _ = claims[what]
        payments[what] += coins
        held[debtor] -= coins
        held[creditor] += coins


def order(book):
    """Moves that, played, come to the best clearing: first all that is paid, then the rings."""
    need_book(book)
    cash, claims = book
    payments = best(book)
    rings = []
    # Coins that go round come back to who gave them: they are set off, and only the rest is paid.
    while ring := _ring_in(claims, payments):
        coins = min([payments[number] for number in ring])
        for number in ring:
            payments[number] -= coins
        rings.append(("ring", tuple(ring), coins))
    return _paid_in_turn(cash, claims, payments) + rings


def _ring_in(claims, payments):
    """The numbers of claims that are a ring and all have coins by the payments; none if there is no ring."""
    numbers = [number for number, coins in enumerate(payments) if coins > 0]
    while numbers:
        onward = {claims[number][0]: number for number in numbers}
        kept = [number for number in numbers if claims[number][1] in onward]
        if kept == numbers:
            return _way_round(claims, onward, numbers[0])
        # A claim whose creditor pays nothing on is in no ring; without it others may lead to nobody, too.
        numbers = kept
    return []


def _way_round(claims, onward, start):
    """The ring that is come to by going on from a claim: from each creditor to the claim that it pays on."""
    way = [start]
    debtor, house, _, _ = claims[start]
    passed = [debtor]
    while house not in passed:
        way.append(onward[house])
        passed.append(house)
        _, house, _, _ = claims[onward[house]]
    return way[passed.index(house):]


def _paid_in_turn(cash, claims, payments):
    """Moves that pay the payments, each as soon as its debtor holds enough; there may be no ring in them."""
    # By a clearing no house pays more than its means, and a ring has given each of its houses as much as it took. So
    # who waits for nobody holds enough; and where there is no ring, somebody waits for nobody.
    held = list(cash)
    moves = []
    waiting = [number for number, coins in enumerate(payments) if coins > 0]
    while waiting:
        later = []
        for number in waiting:
            debtor, creditor, _, _ = claims[number]
            coins = payments[number]
            if coins <= held[debtor]:
                held[debtor] -= coins
                held[creditor] += coins
                moves.append(("pay", number, coins))
            else:
                later.append(number)
        waiting = later
    return moves
