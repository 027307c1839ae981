import unittest

from cases import (
    AT_ONCE, BAD_BOOKS, CHAIN, GOOD_BOOKS, JUST, LEAK, MIDDLE_BOOKS, RING, SHORT_BOOKS, TANGLED, TINY_BOOKS,
    full_books, refuses_bad_books, refuses_missing_houses,
)
from plain import (
    clearings, failing_plainly, felled_plainly, houses_of, most_of, needs_plainly, owed_plainly, walked_most,
    waves_plainly, with_coins,
)
from rankfall.books import net
from rankfall.errors import BadBook, NoHouse
from rankfall.falling import failing, felled, needs, waves

NOBODY_FALLS = [RING, JUST, ((0,), ()), ((3, 0), ()), ((5, 0), ((0, 1, 5, 9),)), ((6, 0), ((0, 1, 5, 9),))]


class FailingTest(unittest.TestCase):
    def test_a_bad_book_is_refused(self):
        refuses_bad_books(self, failing)

    def test_nobody_fails(self):
        for book in NOBODY_FALLS:
            self.assertEqual(failing(book), [])

    def test_one_coin_short(self):
        self.assertEqual(failing(((4, 0), ((0, 1, 5, 9),))), [0])
        self.assertEqual(failing(((0, 4), ((1, 0, 5, 9),))), [1])

    def test_some_and_all_fail(self):
        self.assertEqual(failing(CHAIN), [0, 1, 2])
        self.assertEqual(failing(AT_ONCE), [0, 1, 2])
        self.assertEqual(failing(((0, 0, 0), ((0, 1, 9, 1), (1, 0, 9, 2), (1, 2, 1, 1)))), [0, 1])
        self.assertEqual(failing(((0, 0, 0), ((0, 1, 9, 1), (1, 0, 9, 1), (1, 2, 1, 2)))), [1])
        self.assertEqual(failing(((0, 0), ((0, 1, 2, 1), (1, 0, 3, 1)))), [1])

    def test_a_ring_that_would_pay_nothing_at_worst_does_not_fail(self):
        self.assertEqual(failing(RING), [])

    def test_great_books(self):
        self.assertEqual(failing(LEAK), [0, 1, 2, 3, 4, 5, 6])
        for book in full_books():
            self.assertEqual(failing(book), failing_plainly(book))

    def test_tiny_books_against_all_payments(self):
        for book in TINY_BOOKS:
            most = most_of(clearings(book))
            expected = []
            for house in houses_of(book):
                if sum(most[n] for n, claim in enumerate(book[1]) if claim[0] == house) < owed_plainly(book, house):
                    expected.append(house)
            self.assertEqual(failing(book), expected)

    def test_middle_books_against_plain_steps(self):
        for book in MIDDLE_BOOKS + GOOD_BOOKS:
            self.assertEqual(failing(book), failing_plainly(book))

    def test_whose_net_is_below_nought_fails(self):
        seen = 0
        for book in TINY_BOOKS + MIDDLE_BOOKS + SHORT_BOOKS + GOOD_BOOKS:
            for house, coins in enumerate(net(book)):
                if coins < 0:
                    seen += 1
                    self.assertIn(house, failing(book))
        self.assertGreater(seen, 100)

    def test_more_coins_fell_nobody(self):
        for book in TINY_BOOKS + SHORT_BOOKS + MIDDLE_BOOKS[:40]:
            before = failing(book)
            for house in houses_of(book):
                for more in [1, 2, 7]:
                    for still in failing(with_coins(book, house, book[0][house] + more)):
                        self.assertIn(still, before)


class WavesTest(unittest.TestCase):
    def test_a_bad_book_is_refused(self):
        refuses_bad_books(self, waves)

    def test_nobody_falls(self):
        for book in NOBODY_FALLS:
            self.assertEqual(waves(book), [])

    def test_each_falls_behind_the_one_ahead(self):
        self.assertEqual(waves(CHAIN), [[0], [1], [2]])
        backward = ((0, 1, 1, 2), ((1, 0, 5, 1), (2, 1, 5, 1), (3, 2, 5, 1)))
        self.assertEqual(waves(backward), [[3], [2], [1]])

    def test_eight_houses_in_a_row(self):
        # House 0 is ten coins short, and each behind it makes good for one of them.
        cash = (100,) + (1,) * 6 + (0,)
        claims = tuple((k, k + 1, 110, 1) for k in range(7))
        self.assertEqual(waves((cash, claims)), [[0], [1], [2], [3], [4], [5], [6]])
        # Eight coins are short behind house 2: house 3 has just as many, or one too few.
        self.assertEqual(waves((cash[:3] + (8,) + cash[4:], claims)), [[0], [1], [2]])
        self.assertEqual(waves((cash[:3] + (7,) + cash[4:], claims)), [[0], [1], [2], [3]])

    def test_several_fall_at_once(self):
        self.assertEqual(waves(AT_ONCE), [[0, 1], [2]])
        self.assertEqual(waves(((0,) * 4, ((3, 0, 1, 1), (1, 0, 1, 1), (2, 0, 1, 1)))), [[1, 2, 3]])

    def test_a_later_wave_is_rising_too(self):
        book = ((0,) * 4, ((3, 0, 8, 1), (3, 1, 8, 1), (1, 2, 8, 1), (0, 2, 8, 1)))
        self.assertEqual(waves(book), [[3], [0, 1]])

    def test_a_house_falls_only_when_its_means_are_less(self):
        # House 1 has just enough even when house 0 pays nothing, in the second book one coin less.
        self.assertEqual(waves(((0, 4, 0), ((0, 1, 9, 1), (1, 2, 4, 1)))), [[0]])
        self.assertEqual(waves(((0, 3, 0), ((0, 1, 9, 1), (1, 2, 4, 1)))), [[0], [1]])

    def test_those_of_one_wave_pay_one_another_by_what_they_have(self):
        # Houses 0 and 1 fall at once. House 1 could pay 4 if house 0 paid all, but pays nothing: so house 2 is next.
        book = ((0, 0, 0, 0), ((0, 1, 4, 1), (1, 2, 5, 1), (2, 3, 2, 1)))
        self.assertEqual(waves(book), [[0, 1], [2]])

    def test_a_great_ring_runs_dry(self):
        # House 0 owes 18 more than it gets, each behind it just 3 less: one after the other it falls.
        self.assertEqual(waves(LEAK), [[0], [1], [2], [3], [4], [5], [6]])

    def test_tiny_books_against_all_payments(self):
        for book in TINY_BOOKS:
            self.assertEqual(waves(book), waves_plainly(book, walked_most))

    def test_middle_books_against_plain_steps(self):
        deep = 0
        for book in MIDDLE_BOOKS + GOOD_BOOKS:
            found = waves(book)
            self.assertEqual(found, waves_plainly(book))
            deep += len(found) > 2
        self.assertGreater(deep, 5)

    def test_full_books_against_plain_steps(self):
        for book in full_books():
            self.assertEqual(waves(book), waves_plainly(book))

    def test_all_that_have_fallen_fail_and_nobody_else(self):
        for book in TINY_BOOKS + MIDDLE_BOOKS + SHORT_BOOKS + GOOD_BOOKS + [LEAK]:
            found = waves(book)
            self.assertEqual(sorted(sum(found, [])), failing(book))
            for wave in found:
                self.assertTrue(wave)
                self.assertEqual(wave, sorted(wave))


class FelledTest(unittest.TestCase):
    def test_no_such_house(self):
        refuses_missing_houses(self, felled)

    def test_a_bad_book_is_refused_ahead_of_the_house(self):
        for house in [0, -1, 8, 1000]:
            refuses_bad_books(self, lambda book: felled(book, house))

    def test_a_house_that_fells_several(self):
        self.assertEqual(felled(JUST, 0), [1, 2])

    def test_a_house_that_fells_one(self):
        self.assertEqual(felled(((5, 0, 0), ((0, 1, 5, 1), (1, 2, 5, 1))), 0), [1])
        self.assertEqual(felled(((0, 0, 5), ((2, 1, 5, 1), (1, 0, 5, 1))), 2), [1])

    def test_they_are_rising(self):
        book = ((0, 0, 0, 9), ((3, 1, 5, 1), (3, 0, 4, 1), (1, 2, 5, 1), (0, 2, 4, 1)))
        self.assertEqual(felled(book, 3), [0, 1])

    def test_coins_that_come_back_keep_all_standing(self):
        book = ((0, 0, 9), ((2, 1, 5, 1), (2, 0, 4, 1), (1, 2, 5, 1), (0, 2, 4, 1)))
        self.assertEqual(felled(book, 2), [])

    def test_a_house_that_fells_none(self):
        # It fails itself without its coins, but its creditor stands by its own.
        self.assertEqual(felled(((5, 5, 0), ((0, 1, 5, 1), (1, 2, 5, 1))), 0), [])
        # It has no coins anyway.
        self.assertEqual(felled(JUST, 1), [])
        self.assertEqual(felled(RING, 0), [])

    def test_a_house_that_stands_without_its_coins(self):
        self.assertEqual(felled(((5, 5, 0), ((0, 1, 5, 1), (1, 0, 5, 1), (1, 2, 5, 1))), 0), [])

    def test_a_house_that_owes_nothing(self):
        self.assertEqual(felled(JUST, 3), [])
        self.assertEqual(felled(((0, 9), ((0, 1, 3, 1),)), 1), [])
        self.assertEqual(felled(((9,), ()), 0), [])

    def test_a_house_that_fails_itself(self):
        # As the book is, house 0 fails, but pays enough for house 1 to stand.
        book = ((3, 2, 0), ((0, 1, 5, 1), (1, 2, 4, 1)))
        self.assertEqual(failing(book), [0])
        self.assertEqual(felled(book, 0), [1])
        self.assertEqual(felled(book, 1), [])

    def test_those_that_fail_as_the_book_is_are_not_told(self):
        self.assertEqual(felled(CHAIN, 0), [])
        # House 1 fails anyway, house 2 doesn't.
        book = ((3, 0, 2, 0), ((0, 1, 3, 1), (1, 2, 5, 1), (2, 3, 4, 1)))
        self.assertEqual(failing(book), [1])
        self.assertEqual(felled(book, 0), [2])

    def test_books_against_plain_steps(self):
        many = 0
        for book in TINY_BOOKS + MIDDLE_BOOKS + SHORT_BOOKS + GOOD_BOOKS:
            for house in houses_of(book):
                found = felled(book, house)
                self.assertEqual(found, felled_plainly(book, house))
                many += len(found) > 1
        self.assertGreater(many, 10)

    def test_full_books_against_plain_steps(self):
        for book in full_books():
            for house in houses_of(book):
                self.assertEqual(felled(book, house), felled_plainly(book, house))


class NeedsTest(unittest.TestCase):
    def test_no_such_house(self):
        refuses_missing_houses(self, needs)

    def test_a_bad_book_is_refused_ahead_of_the_house(self):
        for house in [0, -1, 8, 1000]:
            refuses_bad_books(self, lambda book: needs(book, house))

    def all_needs(self, book):
        return [needs(book, house) for house in houses_of(book)]

    def test_who_does_not_fail_needs_nothing(self):
        for book in NOBODY_FALLS:
            self.assertEqual(self.all_needs(book), [0] * len(book[0]))
        for book in TINY_BOOKS + MIDDLE_BOOKS:
            failed = failing(book)
            for house in houses_of(book):
                self.assertEqual(needs(book, house) == 0, house not in failed)

    def test_a_row_of_houses(self):
        # The others stay as they are: house 1 gets just 2, house 2 gets just 3.
        self.assertEqual(self.all_needs(CHAIN), [3, 2, 1, 0])
        self.assertEqual(self.all_needs(AT_ONCE), [3, 4, 5, 0])

    def test_coins_that_come_back_are_counted(self):
        # With 4 coins more house 0 pays 10 and gets 6 back, though without them it gets none back.
        book = ((0, 0, 0), ((0, 1, 10, 1), (1, 0, 6, 2), (1, 2, 4, 1)))
        self.assertEqual(self.all_needs(book), [4, 4, 0])
        # With 6 coins it gets 4 back, as house 1 pays house 2 first.
        self.assertEqual(needs(((0, 0, 0), ((0, 1, 10, 1), (1, 0, 6, 2), (1, 2, 6, 1))), 0), 6)

    def test_more_than_a_book_lets_by(self):
        self.assertEqual(self.all_needs(((0, 5), ((0, 1, 999, 1),) * 24)), [999 * 24, 0])
        self.assertEqual(self.all_needs(((990, 5), ((0, 1, 999, 1),) * 2)), [1008, 0])

    def test_just_as_many_and_one_fewer(self):
        great = 0
        for book in TINY_BOOKS + SHORT_BOOKS + MIDDLE_BOOKS + full_books():
            for house in failing(book):
                wanted = needs(book, house)
                great += book[0][house] + wanted > 999
                enough = with_coins(book, house, book[0][house] + wanted)
                fewer = with_coins(book, house, book[0][house] + wanted - 1)
                self.assertNotIn(house, failing_plainly(enough))
                self.assertIn(house, failing_plainly(fewer))
        self.assertGreater(great, 5)

    def test_tiny_books_coin_by_coin(self):
        for book in TINY_BOOKS + SHORT_BOOKS:
            for house in houses_of(book):
                self.assertEqual(needs(book, house), needs_plainly(book, house))


class AgainTest(unittest.TestCase):
    def test_lists_given_back_may_be_changed(self):
        for book in [CHAIN, AT_ONCE, TANGLED, JUST]:
            for ask in [failing, lambda book: felled(book, 0)]:
                first = ask(book)
                self.assertIs(type(first), list)
                kept = list(first)
                first.append(50)
                first[0] = 60
                self.assertEqual(ask(book), kept)

    def test_waves_given_back_may_be_changed(self):
        for book in [CHAIN, AT_ONCE, TANGLED, JUST]:
            first = waves(book)
            self.assertIs(type(first), list)
            kept = [list(wave) for wave in first]
            for wave in first:
                self.assertIs(type(wave), list)
                wave.append(9)
                wave[0] = 7
            self.assertEqual(waves(book), kept)
            first.clear()
            self.assertEqual(waves(book), kept)

    def test_waves_do_not_hang_together(self):
        found = waves(CHAIN)
        found[0].append(9)
        self.assertEqual(found, [[0, 9], [1], [2]])

    def test_numbers_may_be_asked_again_even_after_a_refusal(self):
        kept = [needs(CHAIN, house) for house in range(4)]
        for house in [-1, 4]:
            with self.assertRaises(NoHouse):
                needs(CHAIN, house)
            with self.assertRaises(BadBook):
                needs(BAD_BOOKS[0][0], house)
        self.assertEqual([needs(CHAIN, house) for house in range(4)], kept)


class PlacesTest(unittest.TestCase):
    def test_each_is_defined_in_its_file(self):
        for function in [failing, waves, felled, needs]:
            self.assertEqual(function.__module__, "rankfall.falling")


if __name__ == "__main__":
    unittest.main()
