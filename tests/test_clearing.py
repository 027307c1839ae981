import unittest

from cases import (
    AT_ONCE, BAD_BOOKS, CHAIN, GOOD_BOOKS, JUST, LEAK, MIDDLE_BOOKS, RING, SHORT_BOOKS, TANGLED, TINY_BOOKS,
    full_books, refuses_bad_books,
)
from plain import (
    all_payments, best_plainly, clearings, clears, failing_plainly, houses_of, means_plainly, with_coins,
    worst_plainly,
)
from rankfall.clearing import best, is_clearing, left, worst
from rankfall.errors import BadBook, BadPayments

ASKED_OF_PAYMENTS = [left, is_clearing]


def all_paid(book):
    return [claim[2] for claim in book[1]]


def none_paid(book):
    return [0] * len(book[1])


def one_coin_off(book, payments):
    """The payments in which one claim has one coin more or fewer, as far as these are payments."""
    for claim in range(len(payments)):
        for more in [-1, 1]:
            if 0 <= payments[claim] + more <= book[1][claim][2]:
                yield payments[:claim] + [payments[claim] + more] + payments[claim + 1:]


class PaymentsTest(unittest.TestCase):
    def refuses(self, book, payments):
        for ask in ASKED_OF_PAYMENTS:
            with self.subTest(ask=ask.__name__, book=book, payments=payments):
                with self.assertRaises(BadPayments):
                    ask(book, payments)

    def test_another_count(self):
        for book in GOOD_BOOKS + SHORT_BOOKS:
            for payments in [all_paid(book), none_paid(book)]:
                self.refuses(book, payments + [0])
                self.refuses(book, payments + [1, 1])
                if payments:
                    self.refuses(book, payments[:-1])
                    self.refuses(book, [])

    def test_below_nought(self):
        for book in GOOD_BOOKS + SHORT_BOOKS:
            for claim in range(len(book[1])):
                for payments in [all_paid(book), none_paid(book)]:
                    for coins in [-1, -1000]:
                        payments[claim] = coins
                        self.refuses(book, payments)

    def test_above_the_amount(self):
        for book in GOOD_BOOKS + SHORT_BOOKS:
            for claim in range(len(book[1])):
                for payments in [all_paid(book), none_paid(book)]:
                    for more in [1, 1000]:
                        payments[claim] = book[1][claim][2] + more
                        self.refuses(book, payments)

    def test_within_another_amount_but_above_its_own(self):
        self.refuses(((9, 9), ((0, 1, 2, 1), (1, 0, 5, 1))), [5, 2])

    def test_payments_at_the_edges_are_let_by(self):
        for book in GOOD_BOOKS + SHORT_BOOKS:
            for payments in [all_paid(book), none_paid(book)]:
                for ask in ASKED_OF_PAYMENTS:
                    ask(book, payments)

    def test_a_bad_book_is_refused_ahead_of_the_payments(self):
        for ask in ASKED_OF_PAYMENTS:
            for payments in [[], [0], [-1], [1000] * 24, [0] * 30]:
                refuses_bad_books(self, lambda book: ask(book, payments))
            refuses_bad_books(self, lambda book: ask(book, [0] * len(book[1])))


class LeftTest(unittest.TestCase):
    def test_nothing_paid_leaves_the_cash(self):
        for book in GOOD_BOOKS + SHORT_BOOKS:
            self.assertEqual(left(book, none_paid(book)), list(book[0]))

    def test_all_paid(self):
        self.assertEqual(left(TANGLED, all_paid(TANGLED)), [7 - 26 + 11, 0 - 13 + 20, 12 - 3 + 11])
        self.assertEqual(left(CHAIN, all_paid(CHAIN)), [-3, 1, 1, 5])

    def test_some_paid(self):
        self.assertEqual(left(CHAIN, [2, 3, 4]), [0, 0, 0, 4])
        self.assertEqual(left(CHAIN, [1, 3, 0]), [1, -1, 4, 0])
        self.assertEqual(left(RING, [4, 0, 1]), [-3, 4, -1])

    def test_far_below_nought(self):
        self.assertEqual(left(((0, 0), ((0, 1, 999, 1),) * 24), [999] * 24), [-999 * 24, 999 * 24])

    def test_no_claims(self):
        self.assertEqual(left(((0,), ()), []), [0])
        self.assertEqual(left(((3, 0, 999), ()), []), [3, 0, 999])

    def test_by_all_payments_of_tiny_books(self):
        for book in TINY_BOOKS[:60]:
            for payments in all_payments(book):
                paid = [0] * len(book[0])
                for claim, coins in zip(book[1], payments):
                    paid[claim[0]] += coins
                expected = [means_plainly(book, payments, house) - paid[house] for house in houses_of(book)]
                self.assertEqual(left(book, payments), expected)

    def test_by_any_payments_it_is_the_coins_of_all(self):
        for book in GOOD_BOOKS + SHORT_BOOKS + MIDDLE_BOOKS + [LEAK] + full_books():
            for payments in [none_paid(book), all_paid(book), best(book), worst(book)]:
                self.assertEqual(sum(left(book, payments)), sum(book[0]))

    def test_by_a_clearing_nobody_is_below_nought(self):
        for book in GOOD_BOOKS + SHORT_BOOKS + MIDDLE_BOOKS + [LEAK] + full_books():
            for payments in [best(book), worst(book)]:
                self.assertGreaterEqual(min(left(book, payments)), 0)


class IsClearingTest(unittest.TestCase):
    def test_all_payments_of_tiny_books(self):
        for book in TINY_BOOKS:
            for payments in all_payments(book):
                self.assertIs(is_clearing(book, payments), clears(book, payments), (book, payments))

    def test_best_and_worst_and_one_coin_off(self):
        for book in GOOD_BOOKS + SHORT_BOOKS + MIDDLE_BOOKS + [LEAK]:
            for payments in [best(book), worst(book)]:
                self.assertIs(is_clearing(book, payments), True)
                for other in one_coin_off(book, payments):
                    self.assertIs(is_clearing(book, other), False)

    def test_all_paid_clears_where_nobody_fails(self):
        self.assertIs(is_clearing(JUST, [5, 5, 5]), True)
        self.assertIs(is_clearing(CHAIN, [5, 5, 5]), False)

    def test_none_paid_clears_where_nobody_holds_a_coin(self):
        self.assertIs(is_clearing(RING, [0, 0, 0]), True)
        self.assertIs(is_clearing(JUST, [0, 0, 0]), False)

    def test_a_ring_clears_by_any_like_payments(self):
        for coins in range(5):
            self.assertIs(is_clearing(RING, [coins] * 3), True)
        self.assertIs(is_clearing(RING, [4, 4, 3]), False)

    def test_the_right_sum_to_the_wrong_rank_or_claim(self):
        book = ((5, 0, 0), ((0, 1, 4, 2), (0, 2, 4, 1)))
        self.assertIs(is_clearing(book, [1, 4]), True)
        self.assertIs(is_clearing(book, [4, 1]), False)
        book = ((5, 0), ((0, 1, 4, 1), (0, 1, 4, 1)))
        self.assertIs(is_clearing(book, [3, 2]), True)
        self.assertIs(is_clearing(book, [2, 3]), False)

    def test_no_claims(self):
        self.assertIs(is_clearing(((0,), ()), []), True)
        self.assertIs(is_clearing(((1, 2), ()), []), True)


class BestAndWorstTest(unittest.TestCase):
    def check(self, book, most, least):
        self.assertEqual(best(book), most)
        self.assertEqual(worst(book), least)

    def test_a_bad_book_is_refused(self):
        refuses_bad_books(self, best)
        refuses_bad_books(self, worst)

    def test_no_claims(self):
        self.check(((0,), ()), [], [])
        self.check(((999,), ()), [], [])
        self.check(((3,) * 8, ()), [], [])

    def test_one_claim(self):
        for coins, paid in [(0, 0), (1, 1), (4, 4), (5, 5), (6, 5), (999, 5)]:
            self.check(((coins, 3), ((0, 1, 5, 7),)), [paid], [paid])

    def test_a_row_of_houses(self):
        self.check(CHAIN, [2, 3, 4], [2, 3, 4])
        self.check(JUST, [5, 5, 5], [5, 5, 5])
        self.check(AT_ONCE, [0, 1, 10], [0, 1, 10])

    def test_a_ring_without_coins(self):
        self.check(RING, [4, 4, 4], [0, 0, 0])

    def test_a_ring_with_a_coin_comes_to_the_same(self):
        self.check(((1, 0, 0), RING[1]), [4, 4, 4], [4, 4, 4])
        self.check(((0, 0, 1), RING[1]), [4, 4, 4], [4, 4, 4])

    def test_a_ring_of_unlike_claims(self):
        book = ((0, 0), ((0, 1, 10, 1), (1, 0, 6, 1)))
        self.check(book, [6, 6], [0, 0])

    def test_a_ring_out_of_which_coins_are_owed_first(self):
        # By rank, what leaves the ring is paid ahead of it, and there is nothing to pay it with.
        self.check(((0, 0, 0), ((0, 1, 9, 1), (1, 0, 9, 2), (1, 2, 1, 1))), [0, 0, 0], [0, 0, 0])
        # The other way about, the ring is paid and nothing leaves it.
        self.check(((0, 0, 0), ((0, 1, 9, 1), (1, 0, 9, 1), (1, 2, 1, 2))), [9, 9, 0], [0, 0, 0])

    def test_a_great_ring_runs_dry_by_one_coin(self):
        self.check(LEAK, [0] * 22, [0] * 22)

    def test_a_coin_goes_round_a_great_ring(self):
        for start in range(7):
            cash = (0,) * start + (1,) + (0,) * (7 - start)
            claims = tuple((k % 7, (k + 1) % 7, 900, 2) for k in range(21))
            self.check((cash, claims), [900] * 21, [900] * 21)

    def test_ranks_and_the_last_coin(self):
        book = ((7, 0), ((0, 1, 4, 2), (0, 1, 3, 1), (0, 1, 4, 2), (0, 1, 1, 1)))
        self.check(book, [2, 3, 1, 1], [2, 3, 1, 1])

    def test_shares_are_whole_coins(self):
        # Each claim would have one and a half; the first one has the odd coin.
        self.check(((3, 0, 0), ((0, 2, 2, 1), (0, 1, 2, 1))), [2, 1], [2, 1])

    def test_tiny_books_against_all_payments(self):
        unlike = 0
        for book in TINY_BOOKS + [RING]:
            most, least = best(book), worst(book)
            found = clearings(book)
            self.assertIn(most, found)
            self.assertIn(least, found)
            for payments in found:
                for claim in range(len(payments)):
                    self.assertLessEqual(payments[claim], most[claim])
                    self.assertGreaterEqual(payments[claim], least[claim])
            unlike += most != least
        self.assertGreater(unlike, 5)

    def test_middle_books_against_plain_steps(self):
        for book in MIDDLE_BOOKS + GOOD_BOOKS + SHORT_BOOKS:
            self.check(book, best_plainly(book), worst_plainly(book))

    def test_full_books_against_plain_steps(self):
        for book in full_books():
            self.check(book, best_plainly(book), worst_plainly(book))

    def test_more_coins_give_no_claim_less(self):
        for book in TINY_BOOKS + SHORT_BOOKS + MIDDLE_BOOKS[:40]:
            for house in houses_of(book):
                for more in [1, 2, 7]:
                    richer = with_coins(book, house, book[0][house] + more)
                    for ask in [best, worst]:
                        for before, after in zip(ask(book), ask(richer)):
                            self.assertGreaterEqual(after, before)

    def test_who_pays_all_at_worst_pays_all_at_best(self):
        for book in TINY_BOOKS + MIDDLE_BOOKS:
            for low, high in zip(worst(book), best(book)):
                self.assertLessEqual(low, high)

    def test_all_is_paid_at_best_just_where_nobody_fails(self):
        for book in TINY_BOOKS + MIDDLE_BOOKS:
            self.assertEqual(best(book) == all_paid(book), failing_plainly(book) == [])


class AgainTest(unittest.TestCase):
    def test_payments_handed_in_are_the_same_afterwards(self):
        for book in [CHAIN, RING, TANGLED, LEAK]:
            for payments in [none_paid(book), all_paid(book), best(book)]:
                for ask in ASKED_OF_PAYMENTS:
                    kept = list(payments)
                    first = ask(book, payments)
                    self.assertEqual(payments, kept)
                    self.assertEqual(ask(book, payments), first)

    def test_answers_are_lists_that_may_be_changed(self):
        for book in [CHAIN, RING, TANGLED, AT_ONCE]:
            for ask in [best, worst, lambda book: left(book, none_paid(book))]:
                first = ask(book)
                self.assertIs(type(first), list)
                kept = list(first)
                first[0] = 77
                first.append(5)
                self.assertEqual(ask(book), kept)
                ask(book).clear()
                self.assertEqual(ask(book), kept)

    def test_a_refusal_changes_no_later_answer(self):
        kept = best(CHAIN)
        for book, _, _ in BAD_BOOKS[:5]:
            with self.assertRaises(BadBook):
                best(book)
        with self.assertRaises(BadPayments):
            left(CHAIN, [9, 9, 9])
        self.assertEqual(best(CHAIN), kept)
        self.assertEqual(left(CHAIN, kept), [0, 0, 0, 4])


class PlacesTest(unittest.TestCase):
    def test_each_is_defined_in_its_file(self):
        for function in [left, is_clearing, best, worst]:
            self.assertEqual(function.__module__, "rankfall.clearing")


if __name__ == "__main__":
    unittest.main()
