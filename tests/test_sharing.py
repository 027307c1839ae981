import unittest
from itertools import product

from cases import TANGLED, refuses_bad_books, refuses_missing_houses
from plain import coin_by_coin, paid_plainly
from rankfall.sharing import paid_by, shared


class SharedTest(unittest.TestCase):
    def check(self, amounts, coins, expected):
        self.assertEqual(shared(amounts, coins), expected)
        self.assertEqual(coin_by_coin(amounts, coins), expected)

    def test_no_amounts(self):
        self.check([], 0, [])
        self.check([], 1, [])
        self.check([], 50, [])

    def test_one_amount(self):
        for coins, expected in [(0, 0), (1, 1), (4, 4), (5, 5), (6, 5), (500, 5)]:
            self.check([5], coins, [expected])

    def test_like_amounts_go_in_their_order(self):
        answers = [[0, 0, 0], [1, 0, 0], [1, 1, 0], [1, 1, 1], [2, 1, 1], [2, 2, 1], [2, 2, 2], [2, 2, 2]]
        for coins, expected in enumerate(answers):
            self.check([2, 2, 2], coins, expected)

    def test_unlike_amounts(self):
        answers = [[0, 0], [1, 0], [1, 1], [1, 2], [1, 3], [2, 3], [2, 4], [2, 5], [3, 5], [3, 6], [3, 7]]
        for coins, expected in enumerate(answers):
            self.check([3, 7], coins, expected)

    def test_no_coin(self):
        self.check([1, 5, 999], 0, [0, 0, 0])

    def test_fewer_coins_than_amounts(self):
        self.check([1, 999, 5, 2], 1, [1, 0, 0, 0])
        self.check([1, 999, 5, 2], 3, [1, 1, 1, 0])

    def test_as_many_coins_as_amounts(self):
        self.check([1, 999, 5, 2], 4, [1, 1, 1, 1])

    def test_as_many_as_all_one_less_and_more(self):
        self.check([4, 1, 6], 10, [4, 1, 5])
        self.check([4, 1, 6], 11, [4, 1, 6])
        self.check([4, 1, 6], 12, [4, 1, 6])
        self.check([4, 1, 6], 1000, [4, 1, 6])

    def test_like_parts_of_unlike_numbers_go_to_the_first(self):
        # One of two is the same part as two of four, whichever stands first.
        self.check([2, 4], 3, [1, 2])
        self.check([2, 4], 4, [2, 2])
        self.check([4, 2], 3, [2, 1])
        self.check([4, 2], 4, [3, 1])
        self.check([6, 3, 9], 6, [2, 1, 3])
        self.check([6, 3, 9], 7, [3, 1, 3])

    def test_a_full_amount_gets_no_more(self):
        self.check([1, 3], 3, [1, 2])
        self.check([1, 1, 9], 10, [1, 1, 8])

    def test_small_amounts_against_the_plain_sharing(self):
        for count in range(5):
            for amounts in product([1, 2, 3, 4, 6], repeat=count):
                for coins in range(sum(amounts) + 2):
                    self.assertEqual(shared(list(amounts), coins), coin_by_coin(amounts, coins), (amounts, coins))

    def test_many_amounts_against_the_plain_sharing(self):
        lists = [
            [999] * 24,
            list(range(1, 25)),
            list(range(24, 0, -1)),
            [999, 1] * 12,
            [7, 13, 29, 5, 5, 100, 61, 2],
            [k * k * 37 // 11 + 1 for k in range(16)],
        ]
        for amounts in lists:
            for coins in [0, 1, 5, 23, 24, 25, 50, 77, 111, 200, 299, 300, 301]:
                self.assertEqual(shared(amounts, coins), coin_by_coin(amounts, coins), (amounts, coins))

    def test_all_coins_short_of_all_against_the_plain_sharing(self):
        amounts = [97, 13, 40, 1, 40, 80]
        for coins in range(sum(amounts) + 3):
            self.assertEqual(shared(amounts, coins), coin_by_coin(amounts, coins), coins)

    def test_great_amounts_to_the_last_coin(self):
        great = 10 ** 18
        self.assertEqual(shared([great, great], great), [great // 2, great // 2])
        self.assertEqual(shared([great, great], great + 1), [great // 2 + 1, great // 2])
        self.assertEqual(shared([great, great + 1], 2), [1, 1])
        # 1 of great + 1 is the lesser part than 1 of great, though hardly.
        self.assertEqual(shared([great, great + 1], 3), [1, 2])
        self.assertEqual(shared([great + 1, great], 3), [2, 1])
        self.assertEqual(shared([great, great + 1, great + 2], 4), [1, 1, 2])
        self.assertEqual(shared([great, great + 2, great + 1], 5), [1, 2, 2])
        self.assertEqual(shared([great, 1], great), [great - 1, 1])

    def test_coins_beyond_all_are_shared_to_nobody(self):
        self.assertEqual(shared([3, 4], 10 ** 18), [3, 4])

    def test_somewhat_beyond_the_numbers_there_is_no_error(self):
        self.assertEqual(shared([2, 3], -1), [0, 0])
        self.assertEqual(shared([], -1), [])
        self.assertEqual(shared([0], -1), [0])
        self.assertEqual(shared([0, 2], 1), [0, 1])

    def test_nothing_handed_in_is_changed_and_answers_are_free(self):
        for coins in [0, 3, 7, 8]:
            amounts = [4, 3]
            first = shared(amounts, coins)
            self.assertIs(type(first), list)
            self.assertEqual(amounts, [4, 3])
            kept = list(first)
            first[0] = 50
            first.append(1)
            self.assertEqual(amounts, [4, 3])
            self.assertEqual(shared(amounts, coins), kept)


class PaidByTest(unittest.TestCase):
    def test_one_rank_shares_in_the_order_of_numbers(self):
        book = ((0, 0), ((0, 1, 2, 5), (1, 0, 9, 5), (0, 1, 4, 5)))
        self.assertEqual(paid_by(book, 0, 3), [(0, 1), (2, 2)])
        self.assertEqual(paid_by(book, 0, 4), [(0, 2), (2, 2)])

    def test_ranks_with_claims_of_others_between(self):
        # House 0 owes claims 2 and 7 by rank 1 (4 and 4), 0 and 4 by rank 2 (10 and 6), 6 by rank 9 (2).
        self.assertEqual(paid_by(TANGLED, 0, 0), [(0, 0), (2, 0), (4, 0), (6, 0), (7, 0)])
        self.assertEqual(paid_by(TANGLED, 0, 5), [(0, 0), (2, 3), (4, 0), (6, 0), (7, 2)])
        self.assertEqual(paid_by(TANGLED, 0, 8), [(0, 0), (2, 4), (4, 0), (6, 0), (7, 4)])
        self.assertEqual(paid_by(TANGLED, 0, 9), [(0, 1), (2, 4), (4, 0), (6, 0), (7, 4)])
        self.assertEqual(paid_by(TANGLED, 0, 16), [(0, 5), (2, 4), (4, 3), (6, 0), (7, 4)])
        self.assertEqual(paid_by(TANGLED, 0, 24), [(0, 10), (2, 4), (4, 6), (6, 0), (7, 4)])
        self.assertEqual(paid_by(TANGLED, 0, 25), [(0, 10), (2, 4), (4, 6), (6, 1), (7, 4)])

    def test_just_enough_and_more_than_all(self):
        whole = [(0, 10), (2, 4), (4, 6), (6, 2), (7, 4)]
        for means in [26, 27, 999, 10 ** 9]:
            self.assertEqual(paid_by(TANGLED, 0, means), whole)

    def test_means_are_what_is_handed_in_not_what_the_house_holds(self):
        self.assertEqual(paid_by(((999, 0), ((0, 1, 5, 1),)), 0, 2), [(0, 2)])
        self.assertEqual(paid_by(((0, 0), ((0, 1, 5, 1),)), 0, 5), [(0, 5)])

    def test_a_lesser_rank_behind_is_paid_first(self):
        book = ((0, 0), ((0, 1, 3, 9), (0, 1, 3, 1)))
        self.assertEqual(paid_by(book, 0, 2), [(0, 0), (1, 2)])
        self.assertEqual(paid_by(book, 0, 4), [(0, 1), (1, 3)])

    def test_claims_of_one_rank_share_whoever_the_creditor_is(self):
        book = ((0, 0, 0), ((0, 2, 5, 1), (0, 1, 5, 1)))
        self.assertEqual(paid_by(book, 0, 5), [(0, 3), (1, 2)])

    def test_a_house_that_owes_nothing(self):
        book = ((5, 5), ((0, 1, 7, 1),))
        self.assertEqual(paid_by(book, 1, 100), [])
        self.assertEqual(paid_by(((0,), ()), 0, 0), [])

    def test_twenty_four_claims_against_the_plain_sharing(self):
        claims = tuple((k % 2, 2, k * 41 % 17 + 1, k * 5 % 3 + 1) for k in range(24))
        for book in [((1, 2, 3), claims), TANGLED]:
            for house in range(3):
                for means in range(130):
                    self.assertEqual(paid_by(book, house, means), paid_plainly(book, house, means), (house, means))

    def test_all_nine_ranks(self):
        claims = tuple((0, 1, 2, 9 - k) for k in range(9))
        self.assertEqual(
            paid_by(((0, 0), claims), 0, 7),
            [(0, 0), (1, 0), (2, 0), (3, 0), (4, 0), (5, 1), (6, 2), (7, 2), (8, 2)],
        )

    def test_no_such_house(self):
        refuses_missing_houses(self, lambda book, house: paid_by(book, house, 5))

    def test_a_bad_book_is_refused_ahead_of_the_house(self):
        for house in [0, -1, 9, 1000]:
            refuses_bad_books(self, lambda book: paid_by(book, house, 5))

    def test_somewhat_beyond_the_numbers_there_is_no_error(self):
        self.assertEqual(paid_by(((0, 0), ((0, 1, 5, 1), (0, 1, 2, 3))), 0, -1), [(0, 0), (1, 0)])

    def test_the_answer_is_a_list_of_pairs_that_may_be_changed(self):
        first = paid_by(TANGLED, 0, 9)
        self.assertIs(type(first), list)
        self.assertEqual({type(pair) for pair in first}, {tuple})
        kept = list(first)
        first.clear()
        self.assertEqual(paid_by(TANGLED, 0, 9), kept)


class PlacesTest(unittest.TestCase):
    def test_each_is_defined_in_its_file(self):
        for function in [shared, paid_by]:
            self.assertEqual(function.__module__, "rankfall.sharing")


if __name__ == "__main__":
    unittest.main()
