import unittest

from cases import (
    AT_ONCE, BAD_BOOKS, CHAIN, GOOD_BOOKS, JUST, LEAK, MIDDLE_BOOKS, RING, SHORT_BOOKS, SLOW_LEAKS, TANGLED,
    TINY_BOOKS, full_books, great_books, numbers_from, refuses_bad_books,
)
from plain import best_plainly, clearings, means_plainly, most_of, played_plainly
from rankfall.clearing import best, left
from rankfall.errors import BadBook, NoMove
from rankfall.orders import order, played

# Houses 0 and 1 owe one another, house 1 and 2 too, and house 2 owes house 0.
ROUND = ((3, 0, 0), ((0, 1, 4, 1), (1, 0, 5, 1), (1, 2, 6, 1), (2, 1, 7, 1), (2, 0, 8, 1)))

# Moves that don't fit ROUND as it is at first.
MISFITS = [
    # No such claim.
    ("pay", -1, 1),
    ("pay", -5, 1),
    ("pay", 5, 1),
    ("pay", 1000, 1),
    ("ring", (0, -4), 1),
    ("ring", (-1, -2), 1),
    ("ring", (0, 5), 1),
    ("ring", (1000, 0), 1),
    # Coins below 1.
    ("pay", 0, 0),
    ("pay", 0, -1),
    ("pay", 0, -1000),
    ("ring", (0, 1), 0),
    ("ring", (0, 1), -1),
    ("ring", (0, 2, 4), -3),
    # More than is owed.
    ("ring", (0, 1), 5),
    ("ring", (1, 0), 5),
    ("ring", (2, 3), 7),
    ("ring", (0, 2, 4), 5),
    ("ring", (4, 0, 2), 1000),
    # More than is held.
    ("pay", 0, 4),
    ("pay", 0, 1000),
    ("pay", 1, 1),
    ("pay", 4, 1),
    # No ring.
    ("ring", (), 1),
    ("ring", (0,), 1),
    ("ring", (0, 2), 1),
    ("ring", (0, 3), 1),
    ("ring", (0, 4, 2), 1),
    ("ring", (2, 1, 4), 1),
    ("ring", (0, 2, 4, 1), 1),
    ("ring", (0, 0), 1),
    ("ring", (0, 1, 0, 1), 1),
    ("ring", (0, 2, 3, 1, 0, 1), 1),
    ("ring", (0, 2, 3, 2, 4), 1),
]


class PlayedTest(unittest.TestCase):
    def test_no_moves(self):
        for book in GOOD_BOOKS + SHORT_BOOKS:
            self.assertEqual(played(book, []), ([0] * len(book[1]), list(book[0])))

    def test_one_pay(self):
        self.assertEqual(played(ROUND, [("pay", 0, 1)]), ([1, 0, 0, 0, 0], [2, 1, 0]))
        self.assertEqual(played(ROUND, [("pay", 0, 3)]), ([3, 0, 0, 0, 0], [0, 3, 0]))

    def test_coins_that_came_in_by_an_earlier_move_are_paid_on(self):
        moves = [("pay", 0, 3), ("pay", 2, 2), ("pay", 4, 1), ("pay", 0, 1), ("pay", 1, 2)]
        self.assertEqual(played(ROUND, moves), ([4, 2, 2, 0, 1], [2, 0, 1]))

    def test_ranks_have_no_say_in_it(self):
        book = ((5, 0), ((0, 1, 4, 9), (0, 1, 4, 1)))
        self.assertEqual(played(book, [("pay", 0, 4)]), ([4, 0], [1, 4]))

    def test_rings_give_nobody_any_coins(self):
        self.assertEqual(played(ROUND, [("ring", (0, 1), 4)]), ([4, 4, 0, 0, 0], [3, 0, 0]))
        self.assertEqual(played(ROUND, [("ring", (1, 0), 4)]), ([4, 4, 0, 0, 0], [3, 0, 0]))
        self.assertEqual(played(RING, [("ring", (0, 1, 2), 4)]), ([4, 4, 4], [0, 0, 0]))
        self.assertEqual(played(RING, [("ring", (2, 0, 1), 1), ("ring", (1, 2, 0), 3)]), ([4, 4, 4], [0, 0, 0]))

    def test_a_ring_may_come_by_a_house_twice(self):
        # Of each claim once: house 1 is come by twice.
        self.assertEqual(played(ROUND, [("ring", (0, 2, 3, 1), 4)]), ([4, 4, 4, 4, 0], [3, 0, 0]))

    def test_a_ring_of_all_claims(self):
        for length in [2, 5, 8]:
            claims = tuple((k, (k + 1) % length, 7, 1) for k in range(length))
            moves = [("ring", tuple(range(length)), 7)]
            self.assertEqual(played(((0,) * length, claims), moves), ([7] * length, [0] * length))
        two = ((0, 0), ((0, 1, 3, 1), (1, 0, 3, 1)) * 12)
        self.assertEqual(played(two, [("ring", tuple(range(24)), 3)]), ([3] * 24, [0, 0]))

    def test_pays_and_rings_together(self):
        moves = [("ring", (0, 1), 2), ("pay", 0, 2), ("ring", (2, 3), 6), ("pay", 1, 1)]
        self.assertEqual(played(ROUND, moves), ([4, 3, 6, 6, 0], [2, 1, 0]))

    def test_just_what_is_owed_yet_and_just_what_is_held(self):
        book = ((9, 0), ((0, 1, 5, 1), (1, 0, 2, 1)))
        self.assertEqual(played(book, [("pay", 0, 5)]), ([5, 0], [4, 5]))
        self.assertEqual(played(book, [("pay", 0, 2), ("pay", 0, 3)]), ([5, 0], [4, 5]))
        self.assertEqual(played(((4, 0), book[1]), [("pay", 0, 4)]), ([4, 0], [0, 4]))

    def test_moves_as_if_by_chance_against_the_plain_words(self):
        numbers = numbers_from(21)
        told = {"all": 0, "some": 0, "none": 0}
        for book in TINY_BOOKS + MIDDLE_BOOKS + SHORT_BOOKS:
            for moves in [order(book), self.made_moves(book, numbers), self.made_moves(book, numbers)]:
                expected = played_plainly(book, moves)
                if isinstance(expected, tuple):
                    told["all"] += 1
                    self.assertEqual(played(book, moves), expected)
                else:
                    told["some" if expected else "none"] += 1
                    with self.assertRaises(NoMove) as caught:
                        played(book, moves)
                    self.assertEqual(caught.exception.number, expected)
        self.assertGreater(min(told.values()), 100)

    def made_moves(self, book, numbers):
        """Moves of which most fit the book, but the last one hardly."""
        moves = []
        for claim, (debtor, creditor, amount, _) in enumerate(book[1]):
            back = [k for k, other in enumerate(book[1]) if other[:2] == (creditor, debtor)]
            coins = 1 + next(numbers) % 3
            if back and next(numbers) % 2:
                moves.append(("ring", (claim, back[0]), coins))
            else:
                moves.append(("pay", claim, min(coins, amount)))
        return moves


class NoMoveTest(unittest.TestCase):
    def refuses(self, book, moves, number):
        with self.subTest(book=book, moves=moves):
            with self.assertRaises(NoMove) as caught:
                played(book, moves)
            self.assertEqual(caught.exception.number, number)
            self.assertEqual(played_plainly(book, moves), number)

    def test_each_way_of_not_fitting_at_first(self):
        for move in MISFITS:
            self.refuses(ROUND, [move], 0)
            self.refuses(ROUND, [move, ("pay", 0, 3)], 0)

    def test_in_the_middle_and_at_the_last(self):
        # The good moves are of two more claims; behind each ring and at the end all hold as many coins as at first.
        more = (ROUND[0], ROUND[1] + ((0, 1, 99, 1), (1, 0, 99, 1)))
        good = [("ring", (5, 6), 9), ("pay", 5, 3), ("pay", 6, 3)]
        for move in MISFITS:
            if move == ("pay", 5, 1):
                move = ("pay", 7, 1)
            self.refuses(more, good[:1] + [move] + good[1:], 1)
            self.refuses(more, good + [move] + good, 3)
            self.refuses(more, good * 4 + [move], 12)
            self.refuses(more, good * 4 + [move] * 2, 12)

    def test_two_that_do_not_fit_the_first_is_told(self):
        good = ("pay", 0, 1)
        for move in MISFITS:
            for other in [MISFITS[0], MISFITS[-1], ("pay", 0, 9)]:
                self.refuses(ROUND, [move, other], 0)
                self.refuses(ROUND, [other, good, move], 0)
            self.refuses(ROUND, [good, ("pay", 99, 1), move], 1)
            self.refuses(ROUND, [good, good, good, ("ring", (0, 99), 1), move, move], 3)

    def test_one_more_than_is_owed_yet(self):
        book = ((9, 9), ((0, 1, 5, 1), (1, 0, 3, 1)))
        self.refuses(book, [("pay", 0, 6)], 0)
        self.refuses(book, [("pay", 0, 2), ("pay", 0, 4)], 1)
        self.refuses(book, [("pay", 0, 5), ("pay", 0, 1)], 1)
        self.refuses(book, [("ring", (0, 1), 2), ("ring", (1, 0), 2)], 1)
        self.refuses(book, [("ring", (0, 1), 3), ("pay", 1, 1)], 1)
        self.refuses(book, [("pay", 1, 1), ("ring", (0, 1), 3)], 1)

    def test_one_more_than_is_held(self):
        book = ((4, 2), ((0, 1, 50, 1), (1, 0, 50, 1)))
        self.refuses(book, [("pay", 0, 5)], 0)
        self.refuses(book, [("pay", 0, 4), ("pay", 0, 1)], 1)
        self.refuses(book, [("pay", 0, 4), ("pay", 1, 7)], 1)
        # A ring gives nobody any coins.
        self.refuses(book, [("ring", (0, 1), 9), ("pay", 0, 5)], 1)

    def test_coins_are_not_held_before_they_come_in(self):
        self.refuses(JUST, [("pay", 1, 5), ("pay", 0, 5)], 0)
        self.assertEqual(played(JUST, [("pay", 0, 5), ("pay", 1, 5)]), ([5, 5, 0], [0, 0, 5, 0]))

    def test_books_without_claims(self):
        for claim in [-1, 0, 1]:
            self.refuses(((9,), ()), [("pay", claim, 1)], 0)
            self.refuses(((9,), ()), [("ring", (claim, claim), 1)], 0)
        self.refuses(((9,), ()), [("ring", (), 1)], 0)

    def test_a_bad_book_is_refused_ahead_of_the_moves(self):
        for moves in [[], [("pay", 0, 1)], [("pay", 99, 0)], [("ring", (), 0)], [("pay", -1, -1)] * 3]:
            refuses_bad_books(self, lambda book: played(book, moves))


class OrderTest(unittest.TestCase):
    def check(self, book):
        """All that the order of a book must be; its moves are given back."""
        moves = order(book)
        self.assertIs(type(moves), list)
        words = [move[0] for move in moves]
        self.assertEqual(words, ["pay"] * words.count("pay") + ["ring"] * words.count("ring"))
        for word, what, coins in moves:
            self.assertIs(type(what), tuple if word == "ring" else int)
            self.assertIs(type(coins), int)
        payments, held = played(book, moves)
        self.assertEqual(payments, best(book))
        self.assertEqual(held, left(book, payments))
        self.assertEqual(played_plainly(book, moves), (payments, held))
        self.assertLessEqual(len(moves), sum(payments))
        return moves

    def test_a_bad_book_is_refused(self):
        refuses_bad_books(self, order)

    def test_nothing_to_pay(self):
        for book in [((0,), ()), ((999,) * 8, ()), LEAK, ((0, 9), ((0, 1, 5, 1),))]:
            self.assertEqual(self.check(book), [])

    def test_one_claim(self):
        self.assertEqual(self.check(((9, 0), ((0, 1, 5, 1),))), [("pay", 0, 5)])
        self.assertEqual(self.check(((3, 0), ((0, 1, 5, 1),))), [("pay", 0, 3)])

    def test_nobody_fails(self):
        self.assertEqual(self.check(JUST), [("pay", 0, 5), ("pay", 1, 5), ("pay", 2, 5)])
        self.check(((9, 9, 9), TANGLED[1]))

    def test_who_stands_behind_waits_for_coins(self):
        # The claims stand in the book the other way about.
        book = (JUST[0], JUST[1][::-1])
        self.assertEqual(self.check(book), [("pay", 2, 5), ("pay", 1, 5), ("pay", 0, 5)])

    def test_some_fail(self):
        for book in [CHAIN, AT_ONCE, TANGLED, ROUND]:
            self.check(book)

    def test_rings_without_any_coin(self):
        [(word, what, coins)] = self.check(RING)
        self.assertEqual((word, sorted(what), coins), ("ring", [0, 1, 2], 4))
        [(word, what, coins)] = self.check(((0, 0), ((0, 1, 10, 1), (1, 0, 6, 1))))
        self.assertEqual((word, sorted(what), coins), ("ring", [0, 1], 6))
        # Two rings that have nothing to do with one another, and two by one house.
        self.check(((0,) * 4, ((0, 1, 3, 1), (1, 0, 3, 1), (2, 3, 4, 1), (3, 2, 5, 1))))
        self.check(((0,) * 3, ((0, 1, 3, 1), (1, 0, 3, 1), (0, 2, 4, 1), (2, 0, 4, 1))))
        self.check(((0,) * 8, tuple((k % 8, (k + 1) % 8, 999, 1) for k in range(24))))

    def test_a_ring_behind_a_rank_that_is_paid_first(self):
        book = ((2, 0, 0), ((0, 1, 5, 2), (1, 0, 5, 1), (0, 2, 2, 1)))
        self.assertEqual(best(book), [5, 5, 2])
        self.check(book)
        # Only what the ring gives more than it takes comes out of it.
        self.check(((0, 3, 0), ((0, 1, 9, 1), (1, 0, 7, 2), (1, 2, 3, 1))))

    def test_a_ring_in_front_of_what_is_paid(self):
        # House 1 has its coins to pay only from house 0; the ring behind it needs none.
        self.check(((4, 0, 0, 0), ((2, 1, 6, 1), (1, 3, 4, 2), (1, 2, 6, 1), (0, 1, 4, 1))))

    def test_ways_out_of_a_ring_that_end(self):
        # From house 1 a way leads on over houses 3 and 4 to nobody; it is not taken for the ring.
        book = ((5, 0, 0, 0, 0), ((0, 1, 9, 1), (1, 3, 5, 1), (3, 4, 5, 1), (1, 2, 4, 1), (2, 0, 4, 1)))
        self.assertEqual(best(book), [9, 5, 5, 4, 4])
        self.check(book)

    def test_tiny_books_against_all_payments(self):
        for book in TINY_BOOKS:
            payments, _ = played(book, self.check(book))
            self.assertEqual(payments, most_of(clearings(book)))

    def test_middle_books_against_plain_steps(self):
        rings = 0
        for book in MIDDLE_BOOKS + GOOD_BOOKS + SHORT_BOOKS:
            moves = self.check(book)
            payments, held = played(book, moves)
            self.assertEqual(payments, best_plainly(book))
            for house, coins in enumerate(held):
                given = sum(paid for claim, paid in zip(book[1], payments) if claim[0] == house)
                self.assertEqual(coins, means_plainly(book, payments, house) - given)
            rings += moves[-1:] != [] and moves[-1][0] == "ring" and moves[0][0] == "pay"
        self.assertGreater(rings, 10)

    def test_great_books(self):
        for book in full_books() + great_books() + SLOW_LEAKS:
            self.check(book)


class AgainTest(unittest.TestCase):
    def test_moves_are_the_same_afterwards(self):
        for book in [CHAIN, RING, TANGLED, ROUND]:
            moves = order(book)
            kept = list(moves)
            first = played(book, moves)
            self.assertEqual(moves, kept)
            self.assertEqual(played(book, moves), first)
        moves = [("pay", 0, 1), ("pay", 99, 1)]
        with self.assertRaises(NoMove):
            played(ROUND, moves)
        self.assertEqual(moves, [("pay", 0, 1), ("pay", 99, 1)])

    def test_what_is_played_is_a_tuple_of_lists_that_may_be_changed(self):
        for book in [CHAIN, RING, TANGLED, ROUND, ((3, 4), ())]:
            for moves in [[], order(book)]:
                first = played(book, moves)
                self.assertEqual([type(first), type(first[0]), type(first[1])], [tuple, list, list])
                kept = (list(first[0]), list(first[1]))
                first[0].append(5)
                first[1][0] = 60
                self.assertEqual(played(book, moves), kept)

    def test_an_order_may_be_changed(self):
        for book in [CHAIN, RING, TANGLED, ROUND]:
            first = order(book)
            kept = list(first)
            self.assertEqual({type(move) for move in first}, {tuple})
            first[0] = ("pay", 99, 0)
            first.append(("ring", (), 0))
            self.assertEqual(order(book), kept)
            order(book).clear()
            self.assertEqual(order(book), kept)

    def test_a_refusal_changes_no_later_answer(self):
        kept = played(ROUND, [("pay", 0, 3)])
        for _ in range(2):
            with self.assertRaises(NoMove):
                played(ROUND, [("pay", 0, 3), ("pay", 0, 1)])
            with self.assertRaises(BadBook):
                played(BAD_BOOKS[0][0], [("pay", 0, 3)])
            self.assertEqual(played(ROUND, [("pay", 0, 3)]), kept)


class PlacesTest(unittest.TestCase):
    def test_each_is_defined_in_its_file(self):
        for function in [played, order]:
            self.assertEqual(function.__module__, "rankfall.orders")


if __name__ == "__main__":
    unittest.main()
