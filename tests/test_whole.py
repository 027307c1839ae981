"""What the document promises over the whole program."""

import unittest
from copy import deepcopy

from cases import (
    AT_ONCE, BAD_BOOKS, CHAIN, GOOD_BOOKS, JUST, LEAK, MIDDLE_BOOKS, RING, SHORT_BOOKS, SLOW_LEAKS, TANGLED,
    TINY_BOOKS, full_books, numbers_from, refuses_missing_houses,
)
from plain import (
    best_plainly, failing_plainly, felled_plainly, houses_of, losses_plainly, merged_plainly, needs_plainly,
    paper_plainly, played_plainly, renumbered, side_by_side, waves_plainly, worst_plainly,
)
from rankfall.books import need_book, net, owed
from rankfall.clearing import best, is_clearing, left, worst
from rankfall.errors import BadBook, BadPayments, BadText, FallError, NoHouse, NoMove
from rankfall.falling import failing, felled, needs, waves
from rankfall.merging import merged
from rankfall.orders import order, played
from rankfall.papers import losses, paper, shows
from rankfall.play import stilled
from rankfall.sharing import paid_by, shared
from rankfall.texts import read, written

KINDS = [BadBook, NoHouse, BadPayments, NoMove, BadText]

# All functions that are handed a book, each with all else wrong that it is handed.
WRONG_ASKS = [
    need_book, net, best, worst, failing, waves, paper, losses, order, written,
    lambda book: owed(book, -1),
    lambda book: paid_by(book, 50, -5),
    lambda book: left(book, [-1] * 30),
    lambda book: is_clearing(book, [5000]),
    lambda book: felled(book, 1000),
    lambda book: needs(book, -9),
    lambda book: shows(book, [(-1, -1, -1), (90, 0, 0)]),
    lambda book: merged(book, -1, -1),
    lambda book: merged(book, 99, 0),
    lambda book: stilled(book, [-1, 99]),
    lambda book: played(book, [("pay", -1, 0), ("ring", (), -1)]),
]

# All functions that are handed a book, each with all else right.
RIGHT_ASKS = [
    need_book, net, best, worst, failing, waves, paper, losses, order, written,
    lambda book: owed(book, 0),
    lambda book: paid_by(book, 0, 5),
    lambda book: left(book, [0] * len(book[1])),
    lambda book: is_clearing(book, [0] * len(book[1])),
    lambda book: felled(book, 0),
    lambda book: needs(book, 0),
    lambda book: shows(book, paper(book)),
    lambda book: merged(book, 1, 0),
    lambda book: stilled(book, [0, 1, 0]),
    lambda book: played(book, order(book)),
    lambda book: read(written(book)),
]

BOOKS = [CHAIN, JUST, AT_ONCE, RING, TANGLED, LEAK] + MIDDLE_BOOKS[:20] + MIDDLE_BOOKS[-20:]


def spoil(answer):
    """Change all lists of an answer, inner ones too."""
    if isinstance(answer, (list, tuple)):
        for part in answer:
            spoil(part)
    if isinstance(answer, list):
        answer.append("spoilt")
        answer[0] = -77
        answer.reverse()


def shuffled(many, numbers):
    found = list(many)
    for k in range(len(found) - 1, 0, -1):
        other = next(numbers) % (k + 1)
        found[k], found[other] = found[other], found[k]
    return found


def other_order(book, numbers):
    """The numbers of claims in another order, in which those of a debtor by one rank stay in theirs."""
    groups = {}
    for claim, (debtor, _, _, rank) in enumerate(book[1]):
        groups.setdefault((debtor, rank), []).append(claim)
    places = shuffled([key for key, claims in groups.items() for _ in claims], numbers)
    return [groups[key].pop(0) for key in places]


class RefusalsTest(unittest.TestCase):
    def refuses(self, kind, ask):
        """Check that it is refused by just this class, which is given back."""
        with self.assertRaises(FallError) as caught:
            ask()
        self.assertEqual([other for other in KINDS if isinstance(caught.exception, other)], [kind])
        self.assertIsInstance(caught.exception, ValueError)
        return caught.exception

    def test_a_bad_book_is_refused_ahead_of_all_else(self):
        for ask in WRONG_ASKS:
            for book, at, why in BAD_BOOKS:
                error = self.refuses(BadBook, lambda: ask(book))
                self.assertEqual((error.at, error.why), (at, why))

    def test_a_bad_book_is_refused_when_all_else_is_right(self):
        for ask in RIGHT_ASKS:
            for book, at, why in BAD_BOOKS:
                error = self.refuses(BadBook, lambda: ask(book))
                self.assertEqual((error.at, error.why), (at, why))

    def test_wrong_houses(self):
        for ask in [
            owed,
            felled,
            needs,
            lambda book, house: paid_by(book, house, 5),
            lambda book, house: merged(book, house, 0),
            lambda book, house: merged(book, 0, house),
            lambda book, house: merged(book, house, house),
            lambda book, house: stilled(book, [house]),
            lambda book, house: stilled(book, [0, house, 0]),
        ]:
            refuses_missing_houses(self, ask)
            for house in [-4, -1, 4, 99]:
                self.refuses(NoHouse, lambda: ask(CHAIN, house))
        self.refuses(NoHouse, lambda: merged(CHAIN, 2, 2))

    def test_wrong_payments(self):
        for ask in [left, is_clearing]:
            for payments in [[], [0, 0], [0, 0, 0, 0], [-1, 0, 0], [5, 5, 6]]:
                self.refuses(BadPayments, lambda: ask(CHAIN, payments))

    def test_wrong_moves(self):
        for number in range(3):
            good = [("pay", 0, 1), ("pay", 1, 1), ("pay", 0, 1)][:number]
            for move in [("pay", 3, 1), ("pay", 0, 0), ("pay", 0, 6), ("pay", 2, 5), ("ring", (0, 1), 1)]:
                self.assertEqual(self.refuses(NoMove, lambda: played(CHAIN, good + [move])).number, number)

    def test_wrong_texts(self):
        for row in range(3):
            rows = ["cash 1 2", "0 owes 1 2 at 3", "1 owes 0 2 at 3"]
            rows[row] += " x"
            self.assertEqual(self.refuses(BadText, lambda: read("\n".join(rows))).row, row)
        error = self.refuses(BadBook, lambda: read("cash 1 2\n0 owes 0 2 at 3"))
        self.assertEqual((error.at, error.why), (0, "house"))

    def test_rows_that_show_nothing_are_not_refused(self):
        self.assertIs(shows(CHAIN, [(99, 0, 0)]), False)


class AgainTest(unittest.TestCase):
    def test_two_books_by_turns(self):
        pairs = [(CHAIN, JUST), (RING, TANGLED), (AT_ONCE, CHAIN), (MIDDLE_BOOKS[0], MIDDLE_BOOKS[-1]), (LEAK, RING)]
        for one, other in pairs:
            for ask in RIGHT_ASKS:
                kept_one, kept_other = deepcopy(ask(one)), deepcopy(ask(other))
                for _ in range(3):
                    first, second = ask(one), ask(other)
                    self.assertEqual((first, second), (kept_one, kept_other))
                    spoil(first)
                    self.assertEqual(second, kept_other)
                    spoil(second)

    def test_what_is_told_does_not_hang_on_what_was_asked_before(self):
        for book in [CHAIN, TANGLED, MIDDLE_BOOKS[3], MIDDLE_BOOKS[-3]]:
            alone = [deepcopy(ask(book)) for ask in RIGHT_ASKS]
            for ask in RIGHT_ASKS:
                spoil(ask(book))
            self.assertEqual([ask(book) for ask in reversed(RIGHT_ASKS)], alone[::-1])

    def test_what_is_handed_in_is_the_same_afterwards(self):
        for book in BOOKS:
            payments, picks, moves, rows = best(book), houses_of(book) * 3, order(book), paper(book)
            amounts = [3, 4, 5]
            kept = deepcopy((payments, picks, moves, rows, amounts))
            answers = [
                left(book, payments), is_clearing(book, payments), stilled(book, picks), played(book, moves),
                shows(book, rows), shared(amounts, 7), shared(amounts, 70),
            ]
            self.assertEqual((payments, picks, moves, rows, amounts), kept)
            spoil(answers)
            self.assertEqual((payments, picks, moves, rows, amounts), kept)


class OtherNumbersTest(unittest.TestCase):
    def test_houses_by_other_numbers_fall_alike(self):
        numbers = numbers_from(31)
        for book in BOOKS + TINY_BOOKS[::3] + SLOW_LEAKS + full_books():
            names = shuffled(houses_of(book), numbers)
            other = renumbered(book, names)
            self.assertEqual(best(other), best(book))
            self.assertEqual(worst(other), worst(book))
            self.assertEqual(stilled(other, [names[0]] * 9), stilled(book, [0] * 9))
            self.assertEqual(failing(other), sorted(names[house] for house in failing(book)))
            self.assertEqual(waves(other), [sorted(names[house] for house in wave) for wave in waves(book)])
            payments, held = played(book, order(book))
            told, other_held = played(other, order(other))
            self.assertEqual(told, payments)
            for house in houses_of(book):
                name = names[house]
                self.assertEqual(left(other, best(book))[name], left(book, best(book))[house])
                self.assertEqual(other_held[name], held[house])
                self.assertEqual(net(other)[name], net(book)[house])
                self.assertEqual(owed(other, name), owed(book, house))
                self.assertEqual(paid_by(other, name, 9), paid_by(book, house, 9))
                self.assertEqual(losses(other)[name], losses(book)[house])
                self.assertEqual(needs(other, name), needs(book, house))
                self.assertEqual(felled(other, name), sorted(names[k] for k in felled(book, house)))
            for house, means, owes in paper(other):
                self.assertIn(names.index(house), failing(book))
            moved = [(names[house], means, owes) for house, means, owes in paper(book)]
            self.assertIs(shows(other, moved), True)

    def test_claims_in_another_order_fall_alike(self):
        numbers = numbers_from(32)
        changed = 0
        for book in BOOKS + TINY_BOOKS[::3] + SLOW_LEAKS + full_books():
            places = other_order(book, numbers)
            changed += places != sorted(places)
            other = (book[0], tuple(book[1][claim] for claim in places))
            for ask in [best, worst, lambda book: stilled(book, [0, 1, 1]), lambda book: played(book, order(book))[0]]:
                told = ask(book)
                self.assertEqual(ask(other), [told[claim] for claim in places])
            for ask in [net, failing, waves, paper, losses, lambda book: played(book, order(book))[1]]:
                self.assertEqual(ask(other), ask(book))
            for house in houses_of(book):
                self.assertEqual(needs(other, house), needs(book, house))
                self.assertEqual(felled(other, house), felled(book, house))
        self.assertGreater(changed, 60)

    def test_ranks_by_other_numbers_in_the_same_order_fall_alike(self):
        for book in BOOKS + TINY_BOOKS[::3]:
            if max([claim[3] for claim in book[1]], default=1) <= 3:
                claims = [(debtor, creditor, amount, 3 * rank) for debtor, creditor, amount, rank in book[1]]
                other = (book[0], tuple(claims))
                for ask in [best, worst, failing, waves, paper, losses, order, lambda book: stilled(book, [0])]:
                    self.assertEqual(ask(other), ask(book))


class CoinsTest(unittest.TestCase):
    def test_no_coin_comes_or_goes(self):
        for book in BOOKS + GOOD_BOOKS + SHORT_BOOKS + SLOW_LEAKS + full_books():
            coins = sum(book[0])
            self.assertEqual(sum(net(book)), coins)
            for payments in [best(book), worst(book), stilled(book, [0]), [0] * len(book[1])]:
                self.assertEqual(sum(left(book, payments)), coins)
            moves = order(book)
            for many in range(len(moves) + 1):
                _, held = played(book, moves[:many])
                self.assertEqual(sum(held), coins)
                self.assertGreaterEqual(min(held), 0)
            self.assertEqual(sum(losses(book)) + sum(best(book)), sum(claim[2] for claim in book[1]))
            self.assertEqual(sum(read(written(book))[0]), coins)
            if len(book[0]) > 1 and book[0][0] + book[0][1] <= 999:
                self.assertEqual(sum(merged(book, 0, 1)[0]), coins)


class FallAlikeTest(unittest.TestCase):
    def falls_as_told(self, book):
        self.assertEqual(best(book), best_plainly(book))
        self.assertEqual(worst(book), worst_plainly(book))
        self.assertEqual(stilled(book, [0] * 5), worst_plainly(book))
        self.assertEqual(failing(book), failing_plainly(book))
        self.assertEqual(waves(book), waves_plainly(book))
        self.assertEqual(paper(book), paper_plainly(book))
        self.assertEqual(losses(book), losses_plainly(book))
        for house in houses_of(book):
            self.assertEqual(felled(book, house), felled_plainly(book, house))
        payments, held = played_plainly(book, order(book))
        self.assertEqual(payments, best_plainly(book))
        self.assertEqual(held, left(book, payments))

    def test_what_is_read_merged_and_put_side_by_side(self):
        small = [book for book in BOOKS + TINY_BOOKS[:40] if len(book[0]) <= 4 and len(book[1]) <= 12]
        for one, other in zip(small, small[1:] + small[:1]):
            both = read(written(side_by_side(one, other)))
            self.assertEqual(both, side_by_side(one, other))
            self.falls_as_told(both)
            last = len(both[0]) - 1
            together = merged(both, last, 0)
            self.assertEqual(together, merged_plainly(both, 0, last))
            self.falls_as_told(together)
            for house in houses_of(together):
                self.assertEqual(needs(together, house), needs_plainly(together, house))

    def test_who_fails_stands_with_the_coins_that_it_needs(self):
        for book in BOOKS + TINY_BOOKS[::4]:
            for house in failing(book):
                coins = book[0][house] + needs(book, house)
                if coins <= 999:
                    cash = book[0][:house] + (coins,) + book[0][house + 1:]
                    self.assertNotIn(house, failing((cash, book[1])))


if __name__ == "__main__":
    unittest.main()
