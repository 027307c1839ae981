import unittest

from cases import (
    AT_ONCE, CHAIN, GOOD_BOOKS, JUST, MIDDLE_BOOKS, RING, SHORT_BOOKS, TANGLED, TINY_BOOKS, full_books,
    refuses_bad_books, refuses_missing_houses,
)
from plain import (
    best_plainly, failing_plainly, houses_of, losses_plainly, merged_plainly, paper_plainly, waves_plainly,
    worst_plainly,
)
from rankfall.books import need_book, net
from rankfall.clearing import best, worst
from rankfall.errors import BadBook, NoHouse
from rankfall.falling import failing, waves
from rankfall.merging import merged
from rankfall.papers import losses, paper

# Five houses; each has a claim on each other one, by amounts that tell which claim it is.
ALL_TO_ALL = (
    (1, 20, 300, 4, 50),
    tuple((k, other, 10 * k + other + 1, 1 + k) for k in range(5) for other in range(5) if k != other),
)


def unlike_pairs(book):
    return [(one, other) for one in houses_of(book) for other in houses_of(book) if one != other]


class MergedTest(unittest.TestCase):
    def test_either_way_round(self):
        book = ((1, 2, 3), ((0, 1, 4, 1), (1, 2, 5, 2), (2, 0, 6, 3)))
        for one, other, expected in [
            (0, 1, ((3, 3), ((0, 1, 5, 2), (1, 0, 6, 3)))),
            (0, 2, ((4, 2), ((0, 1, 4, 1), (1, 0, 5, 2)))),
            (1, 2, ((1, 5), ((0, 1, 4, 1), (1, 0, 6, 3)))),
        ]:
            self.assertEqual(merged(book, one, other), expected)
            self.assertEqual(merged(book, other, one), expected)

    def test_houses_below_between_and_above(self):
        # Houses 1 and 3 are one: house 2 stays, house 4 is house 3 now.
        cash, claims = merged(ALL_TO_ALL, 1, 3)
        self.assertEqual(cash, (1, 24, 300, 50))
        self.assertEqual(claims, (
            (0, 1, 2, 1), (0, 2, 3, 1), (0, 1, 4, 1), (0, 3, 5, 1),
            (1, 0, 11, 2), (1, 2, 13, 2), (1, 3, 15, 2),
            (2, 0, 21, 3), (2, 1, 22, 3), (2, 1, 24, 3), (2, 3, 25, 3),
            (1, 0, 31, 4), (1, 2, 33, 4), (1, 3, 35, 4),
            (3, 0, 41, 5), (3, 1, 42, 5), (3, 2, 43, 5), (3, 1, 44, 5),
        ))

    def test_claims_between_both_are_gone_both_ways(self):
        book = ((0, 0, 0), ((0, 2, 1, 1), (2, 0, 2, 2), (0, 1, 3, 3), (2, 0, 4, 4), (1, 2, 5, 5)))
        self.assertEqual(merged(book, 2, 0), ((0, 0), ((0, 1, 3, 3), (1, 0, 5, 5))))

    def test_claims_of_one_creditor_are_not_put_together(self):
        book = ((0, 0, 0), ((0, 2, 7, 1), (1, 2, 7, 1), (0, 2, 7, 1)))
        self.assertEqual(merged(book, 0, 1), ((0, 0), ((0, 1, 7, 1),) * 3))

    def test_two_houses_only(self):
        for one, other in [(0, 1), (1, 0)]:
            self.assertEqual(merged(((5, 6), ((0, 1, 3, 1), (1, 0, 9, 9))), one, other), ((11,), ()))
            self.assertEqual(merged(((0, 0), ()), one, other), ((0,), ()))
            self.assertEqual(merged(((5, 5), ((0, 1, 1, 1),) * 24), one, other), ((10,), ()))

    def test_the_first_and_the_last_of_eight(self):
        book = (tuple(range(8)), ((0, 7, 1, 1), (6, 7, 2, 2), (1, 0, 3, 3)))
        expected = ((7, 1, 2, 3, 4, 5, 6), ((6, 0, 2, 2), (1, 0, 3, 3)))
        self.assertEqual(merged(book, 0, 7), expected)
        self.assertEqual(merged(book, 7, 0), expected)

    def test_all_pairs_against_the_plain_words(self):
        for book in TINY_BOOKS + MIDDLE_BOOKS + SHORT_BOOKS + [TANGLED, ALL_TO_ALL]:
            for one, other in unlike_pairs(book):
                self.assertEqual(merged(book, one, other), merged_plainly(book, one, other))

    def test_net_is_the_sum_of_both(self):
        for book in TINY_BOOKS + MIDDLE_BOOKS + [TANGLED, ALL_TO_ALL]:
            before = net(book)
            for one, other in unlike_pairs(book):
                after = net(merged(book, one, other))
                self.assertEqual(after[min(one, other)], before[one] + before[other])
                self.assertEqual(sum(after), sum(before))
                others = [coins for house, coins in enumerate(before) if house not in (one, other)]
                del after[min(one, other)]
                self.assertEqual(after, others)

    def test_a_merged_book_falls_as_any_other(self):
        for book in TINY_BOOKS[:60] + MIDDLE_BOOKS[:40] + SHORT_BOOKS + [TANGLED]:
            for one, other in unlike_pairs(book):
                together = merged(book, one, other)
                need_book(together)
                self.assertEqual(best(together), best_plainly(together))
                self.assertEqual(worst(together), worst_plainly(together))
                self.assertEqual(failing(together), failing_plainly(together))
                self.assertEqual(waves(together), waves_plainly(together))
                self.assertEqual(paper(together), paper_plainly(together))
                self.assertEqual(losses(together), losses_plainly(together))

    def test_merged_again_and_again_to_one_house(self):
        for book in [RING, CHAIN, AT_ONCE, JUST, TANGLED, ALL_TO_ALL]:
            coins = sum(book[0])
            while len(book[0]) > 1:
                book = merged(book, len(book[0]) - 1, 0)
            self.assertEqual(book, ((coins,), ()))


class RefusedTest(unittest.TestCase):
    def test_no_such_house(self):
        for known in [0, 5, -1, 9]:
            refuses_missing_houses(self, lambda book, house: merged(book, known, house))
            refuses_missing_houses(self, lambda book, house: merged(book, house, known))

    def test_the_same_house_twice(self):
        for book in GOOD_BOOKS + SHORT_BOOKS:
            for house in houses_of(book):
                with self.assertRaises(NoHouse):
                    merged(book, house, house)
        refuses_missing_houses(self, lambda book, house: merged(book, house, house))

    def test_too_many_coins_together(self):
        for cash, one, other, at in [
            ((1, 999), 0, 1, 0),
            ((999, 999), 0, 1, 0),
            ((0, 500, 7, 500), 1, 3, 1),
            ((0, 0, 999, 0, 0, 0, 0, 1), 2, 7, 2),
            ((0,) * 6 + (600, 400), 6, 7, 6),
        ]:
            for pair in [(one, other), (other, one)]:
                with self.assertRaises(BadBook) as caught:
                    merged((cash, ((0, 1, 5, 1),)), *pair)
                self.assertEqual((caught.exception.at, caught.exception.why), (at, "cash"))

    def test_just_as_many_coins_as_a_house_may_hold(self):
        for cash in [(0, 999), (999, 0), (500, 499), (1, 998)]:
            self.assertEqual(merged((cash, ()), 0, 1), ((999,), ()))
        self.assertEqual(merged(((999, 499, 999, 500), ()), 3, 1), ((999, 999, 999), ()))

    def test_the_same_house_twice_is_refused_ahead_of_too_many_coins(self):
        with self.assertRaises(NoHouse):
            merged(((999, 999), ()), 1, 1)
        with self.assertRaises(NoHouse):
            merged(((999, 999), ()), 1, 2)

    def test_a_bad_book_is_refused_ahead_of_the_houses(self):
        for one, other in [(0, 1), (1, 0), (0, 0), (-1, -1), (8, 0), (0, 1000), (50, -50)]:
            refuses_bad_books(self, lambda book: merged(book, one, other))


class AgainTest(unittest.TestCase):
    def test_a_book_of_tuples_each_time(self):
        for book in [ALL_TO_ALL, TANGLED, RING] + MIDDLE_BOOKS[:20]:
            first = merged(book, 0, 1)
            self.assertEqual([type(first), type(first[0]), type(first[1])], [tuple] * 3)
            self.assertEqual({type(claim) for claim in first[1]} | {tuple}, {tuple})
            self.assertEqual(merged(book, 0, 1), first)
            self.assertEqual(hash(first), hash(merged(book, 1, 0)))

    def test_what_stands_at_the_edges_of_a_book(self):
        for book in GOOD_BOOKS + full_books():
            for one, other in unlike_pairs(book):
                if book[0][one] + book[0][other] <= 999:
                    need_book(merged(book, one, other))


class PlacesTest(unittest.TestCase):
    def test_it_is_defined_in_its_file(self):
        self.assertEqual(merged.__module__, "rankfall.merging")


if __name__ == "__main__":
    unittest.main()
