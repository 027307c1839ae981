"""Books that several tests use."""

from rankfall.errors import BadBook, NoHouse

# Three houses. House 0 owes by three ranks, with claims of other houses in between.
TANGLED = (
    (7, 0, 12),
    (
        (0, 1, 10, 2),
        (1, 2, 5, 1),
        (0, 2, 4, 1),
        (2, 0, 3, 9),
        (0, 1, 6, 2),
        (1, 0, 8, 1),
        (0, 2, 2, 9),
        (0, 1, 4, 1),
    ),
)

TWO = (5, 5)
GOOD = (0, 1, 1, 1)

# Books at the edges of what a book may be.
GOOD_BOOKS = [
    ((0,), ()),
    ((999,), ()),
    ((0,) * 8, ()),
    ((999,) * 8, ()),
    (TWO, ()),
    (TWO, (GOOD,)),
    (TWO, (GOOD,) * 24),
    (TWO, ((1, 0, 1, 1),)),
    (TWO, ((0, 1, 999, 1),)),
    (TWO, ((0, 1, 1, 9),)),
    ((0,) * 8, ((7, 0, 999, 9), (0, 7, 999, 9))),
    TANGLED,
]

# Each with the number and the word of its first wrong thing.
BAD_BOOKS = [
    # The count of houses.
    (((), ()), 0, "houses"),
    (((0,) * 9, ()), 0, "houses"),
    (((0,) * 20, ()), 0, "houses"),
    # The coins of a house.
    (((-1,), ()), 0, "cash"),
    (((1000,), ()), 0, "cash"),
    (((0, 0, -1), ()), 2, "cash"),
    (((999, 1000, 999), ()), 1, "cash"),
    (((0,) * 7 + (1000,), ()), 7, "cash"),
    (((0, -5, 1000), ()), 1, "cash"),
    # The count of claims.
    ((TWO, (GOOD,) * 25), 0, "claims"),
    ((TWO, (GOOD,) * 60), 0, "claims"),
    # The houses of a claim.
    ((TWO, ((-1, 0, 1, 1),)), 0, "house"),
    ((TWO, ((0, -1, 1, 1),)), 0, "house"),
    ((TWO, ((2, 0, 1, 1),)), 0, "house"),
    ((TWO, ((0, 2, 1, 1),)), 0, "house"),
    ((TWO, ((-1, -1, 1, 1),)), 0, "house"),
    ((TWO, ((0, 0, 1, 1),)), 0, "house"),
    ((TWO, (GOOD, (1, 1, 1, 1))), 1, "house"),
    (((0,), (GOOD,)), 0, "house"),
    (((0,) * 8, (GOOD, GOOD, (8, 0, 1, 1))), 2, "house"),
    (((0,) * 8, (GOOD, GOOD, (0, 8, 1, 1))), 2, "house"),
    ((TWO, (GOOD,) * 23 + ((0, 0, 1, 1),)), 23, "house"),
    # The amount of a claim.
    ((TWO, ((0, 1, 0, 1),)), 0, "amount"),
    ((TWO, ((0, 1, -1, 1),)), 0, "amount"),
    ((TWO, ((0, 1, 1000, 1),)), 0, "amount"),
    ((TWO, (GOOD, GOOD, (1, 0, 1000, 9))), 2, "amount"),
    # The rank of a claim.
    ((TWO, ((0, 1, 1, 0),)), 0, "rank"),
    ((TWO, ((0, 1, 1, -1),)), 0, "rank"),
    ((TWO, ((0, 1, 1, 10),)), 0, "rank"),
    ((TWO, (GOOD, (1, 0, 999, 10))), 1, "rank"),
    # Two things wrong at once: the first one in the order of the document.
    (((), (GOOD,) * 25), 0, "houses"),
    (((0,) * 8 + (1000,), ()), 0, "houses"),
    (((-1,) * 9, ((0, 0, 0, 0),)), 0, "houses"),
    (((1000, -1), ()), 0, "cash"),
    (((0, 1000), (GOOD,) * 25), 1, "cash"),
    (((0, 1000), ((0, 0, 0, 0),)), 1, "cash"),
    ((TWO, ((0, 0, 0, 0),) * 25), 0, "claims"),
    ((TWO, ((0, 0, 0, 0),)), 0, "house"),
    ((TWO, ((0, 2, 1000, 1),)), 0, "house"),
    ((TWO, ((2, 0, 1, 10),)), 0, "house"),
    ((TWO, ((0, 1, 0, 0),)), 0, "amount"),
    ((TWO, (GOOD, (0, 1, 1, 0), (0, 0, 1, 1))), 1, "rank"),
    ((TWO, ((0, 1, 0, 1), (0, 0, 1, 1))), 0, "amount"),
    ((TWO, ((0, 1, 1, 10), (0, 1, 0, 1))), 0, "rank"),
]


def refuses_bad_books(test, ask):
    """Check that ask(book) refuses each of the bad books by its first wrong thing."""
    for book, at, why in BAD_BOOKS:
        with test.subTest(book=book):
            with test.assertRaises(BadBook) as caught:
                ask(book)
            test.assertEqual((caught.exception.at, caught.exception.why), (at, why))


def refuses_missing_houses(test, ask):
    """Check that ask(book, house) refuses the houses that aren't in a good book."""
    for book in GOOD_BOOKS:
        houses = len(book[0])
        for house in [-houses - 1, -houses, -1, houses, houses + 1, 1000]:
            with test.subTest(book=book, house=house):
                with test.assertRaises(NoHouse):
                    ask(book, house)
