"""Books that several tests use."""

from rankfall.errors import BadBook, NoHouse

# Three houses. House 0 owes by three ranks, with claims of other houses in between.
TANGLED = (
    (7, 0, 12),
    (
        (0, 1, 10, 2),
        (1, 2, 5, 1),
        (0, 2, 4, 1),
        (2, 0, 3, 9),
        (0, 1, 6, 2),
        (1, 0, 8, 1),
        (0, 2, 2, 9),
        (0, 1, 4, 1),
    ),
)

TWO = (5, 5)
GOOD = (0, 1, 1, 1)

# Books at the edges of what a book may be.
GOOD_BOOKS = [
    ((0,), ()),
    ((999,), ()),
    ((0,) * 8, ()),
    ((999,) * 8, ()),
    (TWO, ()),
    (TWO, (GOOD,)),
    (TWO, (GOOD,) * 24),
    (TWO, ((1, 0, 1, 1),)),
    (TWO, ((0, 1, 999, 1),)),
    (TWO, ((0, 1, 1, 9),)),
    ((0,) * 8, ((7, 0, 999, 9), (0, 7, 999, 9))),
    TANGLED,
]

# Houses without coins that owe one another in a ring.
RING = ((0, 0, 0), ((0, 1, 4, 1), (1, 2, 4, 1), (2, 0, 4, 1)))

# Houses that owe one another ahead, with so few coins that each falls behind the one ahead.
CHAIN = ((2, 1, 1, 0), ((0, 1, 5, 1), (1, 2, 5, 1), (2, 3, 5, 1)))

# Houses 0 and 1 fail at once, and house 2 behind them. House 3 owes nothing.
AT_ONCE = ((0, 1, 9, 0), ((0, 2, 3, 1), (1, 2, 5, 1), (2, 3, 15, 1)))

# House 0 has just enough, and all that stand behind it live on that.
JUST = ((5, 0, 0, 0), ((0, 1, 5, 1), (1, 2, 5, 1), (2, 3, 5, 1)))

# Seven houses without coins in a ring of great claims, out of which one coin is owed ahead of all to the eighth house.
LEAK = ((0,) * 8, tuple((k % 7, (k + 1) % 7, 999 - k, 2) for k in range(21)) + ((3, 7, 1, 1),))

SHORT_BOOKS = [RING, CHAIN, AT_ONCE, JUST]


def numbers_from(seed):
    """Numbers without end that look like chance, but are always the same for a seed."""
    while True:
        seed = (seed * 6364136223846793005 + 1442695040888963407) % 2 ** 64
        yield seed >> 33


def made_books(seed, count, houses, claims, most_cash, most_amount):
    """So many books: up to so many houses (two at least) and claims, coins and amounts up to the most."""
    numbers = numbers_from(seed)
    found = []
    for _ in range(count):
        many = 2 + next(numbers) % (houses - 1)
        made = []
        for _ in range(next(numbers) % (claims + 1)):
            debtor = next(numbers) % many
            creditor = (debtor + 1 + next(numbers) % (many - 1)) % many
            made.append((debtor, creditor, 1 + next(numbers) % most_amount, 1 + next(numbers) % 3))
        # Half of the houses hold nothing, so that enough of them fail.
        cash = tuple(next(numbers) % 2 * (next(numbers) % (most_cash + 1)) for _ in range(many))
        found.append((cash, tuple(made)))
    return found


def even_books(books, seed):
    """The books with such coins that each house has hardly more than it owes if all pay all, but for one house."""
    numbers = numbers_from(seed)
    found = []
    for cash, claims in books:
        short = [next(numbers) % 2 for _ in cash]
        for debtor, creditor, amount, _ in claims:
            short[debtor] += amount
            short[creditor] -= amount
        short[next(numbers) % len(cash)] -= 1 + next(numbers) % 8
        found.append((tuple(max(0, coins) for coins in short), claims))
    return found


# Small enough that all payments can be walked.
TINY_BOOKS = made_books(1, 150, 4, 4, 4, 4) + made_books(2, 80, 3, 6, 3, 2)
TINY_BOOKS += even_books(made_books(6, 100, 4, 4, 0, 4), 7)

# Too many payments to walk, but soon done step by step.
MIDDLE_BOOKS = made_books(3, 60, 6, 12, 12, 9) + made_books(4, 40, 8, 24, 15, 8)
MIDDLE_BOOKS += even_books(made_books(10, 90, 8, 16, 0, 9), 11)


def full_books():
    """Books of eight houses and twenty-four claims, with great coins and amounts."""
    numbers = numbers_from(5)
    found = []
    for _ in range(6):
        claims = []
        for k in range(24):
            debtor = k % 8
            creditor = (debtor + 1 + next(numbers) % 7) % 8
            claims.append((debtor, creditor, 500 + next(numbers) % 500, 1 + next(numbers) % 9))
        found.append((tuple(next(numbers) % 3 * (next(numbers) % 400) for _ in range(8)), tuple(claims)))
    return found


def great_books():
    """Books of eight houses and twenty-four claims up to 999, by which rings of great claims are paid by few coins."""
    found = []
    for cash, claims in even_books(made_books(12, 60, 8, 24, 0, 999), 13):
        found.append((tuple(min(999, coins) for coins in cash), claims))
    for coins in [0, 1, 999]:
        found.append(((coins,) + (0,) * 7, tuple((k % 8, (k + 1) % 8, 999, 1 + k % 9) for k in range(24))))
    return found


# One coin goes round a ring of claims of 999 until these are paid; only then it leaks out by another rank.
SLOW_LEAKS = [
    ((0, 0, 0, 1) + (0,) * 4, tuple((k, (k + 1) % 7, 999, 1) for k in range(7)) + ((3, 7, 1, 2), (5, 7, 999, 9))),
    ((0, 0, 2, 0), ((0, 1, 999, 3), (1, 2, 999, 1), (2, 0, 998, 1), (2, 3, 5, 2), (1, 3, 4, 2))),
    # Of each five hundred coins or so one leaks out by the same rank.
    ((500, 0, 0), ((0, 1, 999, 1), (1, 0, 997, 1), (0, 2, 2, 1), (1, 0, 999, 2), (0, 1, 998, 2))),
]


# Each with the number and the word of its first wrong thing.
BAD_BOOKS = [
    # The count of houses.
    (((), ()), 0, "houses"),
    (((0,) * 9, ()), 0, "houses"),
    (((0,) * 20, ()), 0, "houses"),
    # The coins of a house.
    (((-1,), ()), 0, "cash"),
    (((1000,), ()), 0, "cash"),
    (((0, 0, -1), ()), 2, "cash"),
    (((999, 1000, 999), ()), 1, "cash"),
    (((0,) * 7 + (1000,), ()), 7, "cash"),
    (((0, -5, 1000), ()), 1, "cash"),
    # The count of claims.
    ((TWO, (GOOD,) * 25), 0, "claims"),
    ((TWO, (GOOD,) * 60), 0, "claims"),
    # The houses of a claim.
    ((TWO, ((-1, 0, 1, 1),)), 0, "house"),
    ((TWO, ((0, -1, 1, 1),)), 0, "house"),
    ((TWO, ((2, 0, 1, 1),)), 0, "house"),
    ((TWO, ((0, 2, 1, 1),)), 0, "house"),
    ((TWO, ((-1, -1, 1, 1),)), 0, "house"),
    ((TWO, ((0, 0, 1, 1),)), 0, "house"),
    ((TWO, (GOOD, (1, 1, 1, 1))), 1, "house"),
    (((0,), (GOOD,)), 0, "house"),
    (((0,) * 8, (GOOD, GOOD, (8, 0, 1, 1))), 2, "house"),
    (((0,) * 8, (GOOD, GOOD, (0, 8, 1, 1))), 2, "house"),
    ((TWO, (GOOD,) * 23 + ((0, 0, 1, 1),)), 23, "house"),
    # The amount of a claim.
    ((TWO, ((0, 1, 0, 1),)), 0, "amount"),
    ((TWO, ((0, 1, -1, 1),)), 0, "amount"),
    ((TWO, ((0, 1, 1000, 1),)), 0, "amount"),
    ((TWO, (GOOD, GOOD, (1, 0, 1000, 9))), 2, "amount"),
    # The rank of a claim.
    ((TWO, ((0, 1, 1, 0),)), 0, "rank"),
    ((TWO, ((0, 1, 1, -1),)), 0, "rank"),
    ((TWO, ((0, 1, 1, 10),)), 0, "rank"),
    ((TWO, (GOOD, (1, 0, 999, 10))), 1, "rank"),
    # Two things wrong at once: the first one in the order of the document.
    (((), (GOOD,) * 25), 0, "houses"),
    (((0,) * 8 + (1000,), ()), 0, "houses"),
    (((-1,) * 9, ((0, 0, 0, 0),)), 0, "houses"),
    (((1000, -1), ()), 0, "cash"),
    (((0, 1000), (GOOD,) * 25), 1, "cash"),
    (((0, 1000), ((0, 0, 0, 0),)), 1, "cash"),
    ((TWO, ((0, 0, 0, 0),) * 25), 0, "claims"),
    ((TWO, ((0, 0, 0, 0),)), 0, "house"),
    ((TWO, ((0, 2, 1000, 1),)), 0, "house"),
    ((TWO, ((2, 0, 1, 10),)), 0, "house"),
    ((TWO, ((0, 1, 0, 0),)), 0, "amount"),
    ((TWO, (GOOD, (0, 1, 1, 0), (0, 0, 1, 1))), 1, "rank"),
    ((TWO, ((0, 1, 0, 1), (0, 0, 1, 1))), 0, "amount"),
    ((TWO, ((0, 1, 1, 10), (0, 1, 0, 1))), 0, "rank"),
]


def refuses_bad_books(test, ask):
    """Check that ask(book) refuses each of the bad books by its first wrong thing."""
    for book, at, why in BAD_BOOKS:
        with test.subTest(book=book):
            with test.assertRaises(BadBook) as caught:
                ask(book)
            test.assertEqual((caught.exception.at, caught.exception.why), (at, why))


def refuses_missing_houses(test, ask):
    """Check that ask(book, house) refuses the houses that aren't in a good book."""
    for book in GOOD_BOOKS:
        houses = len(book[0])
        for house in [-houses - 1, -houses, -1, houses, houses + 1, 1000]:
            with test.subTest(book=book, house=house):
                with test.assertRaises(NoHouse):
                    ask(book, house)
