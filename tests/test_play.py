import unittest

from cases import (
    AT_ONCE, BAD_BOOKS, CHAIN, GOOD_BOOKS, JUST, LEAK, MIDDLE_BOOKS, RING, SHORT_BOOKS, SLOW_LEAKS, TANGLED,
    TINY_BOOKS, full_books, great_books, numbers_from, refuses_bad_books,
)
from plain import clearings, houses_of, stilled_plainly, worst_plainly
from rankfall.clearing import is_clearing, left, worst
from rankfall.errors import BadBook, NoHouse
from rankfall.play import stilled


def many_picks(book):
    """Lists of picks: none, one house alone, all by turns, one after the other, and as if by chance."""
    houses = houses_of(book)
    numbers = numbers_from(len(book[1]) + sum(book[0]))
    found = [[], houses, houses[::-1], houses * 30, houses[::-1] * 30]
    for house in houses:
        found += [[house], [house] * 7]
    found.append([house for house in houses for _ in range(20)])
    found += [[next(numbers) % len(houses) for _ in range(40)] for _ in range(3)]
    return found


class StilledTest(unittest.TestCase):
    def check(self, book, expected):
        for picks in many_picks(book):
            self.assertEqual(stilled(book, picks), expected, (book, picks))

    def test_no_claims(self):
        self.check(((0,), ()), [])
        self.check(((999,) * 8, ()), [])

    def test_one_claim(self):
        for coins, paid in [(0, 0), (1, 1), (4, 4), (5, 5), (6, 5), (999, 5)]:
            self.check(((coins, 3), ((0, 1, 5, 7),)), [paid])

    def test_a_row_of_houses(self):
        self.check(CHAIN, [2, 3, 4])
        self.check(JUST, [5, 5, 5])
        self.check(AT_ONCE, [0, 1, 10])

    def test_rings_without_coins_stay_as_they_are(self):
        self.check(RING, [0, 0, 0])
        self.check(((0,) * 8, tuple((k % 8, (k + 1) % 8, 999, 1) for k in range(24))), [0] * 24)
        self.check(LEAK, [0] * 22)

    def test_a_ring_with_one_coin_is_paid(self):
        self.check(((1, 0, 0), RING[1]), [4, 4, 4])
        self.check(((0, 0, 1), RING[1]), [4, 4, 4])

    def test_ranks_and_the_last_coin(self):
        self.check(((7, 0), ((0, 1, 4, 2), (0, 1, 3, 1), (0, 1, 4, 2), (0, 1, 1, 1))), [2, 3, 1, 1])
        self.check(((3, 0, 0), ((0, 2, 2, 1), (0, 1, 2, 1))), [2, 1])
        self.check(((3, 0, 0), ((0, 1, 2, 1), (0, 2, 4, 1))), [1, 2])

    def test_coins_that_come_in_later_are_shared_as_if_they_had_been_there(self):
        # House 0 pays its first coin before the others come in; the ranks have their due nevertheless.
        book = ((1, 5, 0), ((0, 2, 3, 2), (1, 0, 5, 1), (0, 2, 4, 1)))
        self.check(book, [2, 5, 4])

    def test_coins_leak_out_of_great_rings_slowly(self):
        for book in SLOW_LEAKS:
            expected = worst(book)
            self.assertEqual(expected, stilled_plainly(book, []))
            for picks in many_picks(book)[:8]:
                self.assertEqual(stilled(book, picks), expected)
        self.assertEqual(stilled(SLOW_LEAKS[0], [])[:8], [999] * 7 + [1])

    def test_tiny_books_with_all_picks_against_all_payments(self):
        for book in TINY_BOOKS[::5] + [RING]:
            least = [min(column) for column in zip(*clearings(book))]
            self.check(book, least)

    def test_tiny_and_middle_books_are_paid_coin_by_coin(self):
        for book in TINY_BOOKS + MIDDLE_BOOKS:
            expected = worst_plainly(book)
            for picks in many_picks(book)[:4]:
                self.assertEqual(stilled(book, picks), expected)
                self.assertEqual(stilled_plainly(book, picks), expected)

    def test_great_books(self):
        for book in full_books() + great_books():
            houses = houses_of(book)
            for picks in [[], houses * 100, [houses[-1]] * 500]:
                self.assertEqual(stilled(book, picks), worst(book))

    def test_many_more_picks_than_coins(self):
        for book in [CHAIN, JUST, AT_ONCE, RING, TANGLED]:
            houses = houses_of(book)
            for picks in [houses * 3000, [0] * 9000 + houses[::-1] * 500]:
                self.assertEqual(stilled(book, picks), worst(book))

    def test_houses_that_may_not_pay_are_picked(self):
        # House 1 holds no coin yet, and house 3 owes nothing.
        self.assertEqual(stilled(JUST, [1, 3, 1, 3, 2]), [5, 5, 5])
        self.assertEqual(stilled(RING, [0, 1, 2] * 5), [0, 0, 0])
        # House 0 owes nothing any more.
        self.assertEqual(stilled(((9, 0), ((0, 1, 2, 1),)), [0] * 9), [2])

    def test_it_is_a_clearing_and_no_coin_is_gone(self):
        for book in MIDDLE_BOOKS + GOOD_BOOKS + SHORT_BOOKS + SLOW_LEAKS:
            payments = stilled(book, [0, 0, 0])
            self.assertIs(is_clearing(book, payments), True)
            self.assertEqual(sum(left(book, payments)), sum(book[0]))


class RefusedTest(unittest.TestCase):
    def test_a_pick_that_is_no_house_wherever_it_stands(self):
        for book in GOOD_BOOKS + SHORT_BOOKS:
            houses = len(book[0])
            for wrong in [-houses - 1, -houses, -1, houses, houses + 1, 1000]:
                for good in [[], [0], houses_of(book), [0] * 3000]:
                    for picks in [[wrong] + good, good + [wrong], good + [wrong] + good, [wrong, wrong]]:
                        with self.assertRaises(NoHouse):
                            stilled(book, picks)

    def test_a_bad_book_is_refused_ahead_of_the_picks(self):
        for picks in [[], [0], [-1], [8], [1000, -1000], [0, 0, 9]]:
            refuses_bad_books(self, lambda book: stilled(book, picks))


class AgainTest(unittest.TestCase):
    def test_picks_are_the_same_afterwards(self):
        for book in [CHAIN, JUST, TANGLED, LEAK]:
            for picks in many_picks(book):
                kept = list(picks)
                stilled(book, picks)
                self.assertEqual(picks, kept)

    def test_the_answer_is_a_list_that_may_be_changed(self):
        for book in [CHAIN, JUST, TANGLED, RING]:
            first = stilled(book, [0])
            self.assertIs(type(first), list)
            kept = list(first)
            first[0] = 70
            first.append(8)
            self.assertEqual(stilled(book, [0]), kept)

    def test_a_refusal_changes_no_later_answer(self):
        for _ in range(2):
            with self.assertRaises(NoHouse):
                stilled(CHAIN, [0, 0, 4])
            with self.assertRaises(BadBook):
                stilled(BAD_BOOKS[3][0], [0])
            self.assertEqual(stilled(CHAIN, [0, 0]), [2, 3, 4])


class PlacesTest(unittest.TestCase):
    def test_it_is_defined_in_its_file(self):
        self.assertEqual(stilled.__module__, "rankfall.play")


if __name__ == "__main__":
    unittest.main()
