import unittest

from cases import GOOD_BOOKS, TANGLED, refuses_bad_books, refuses_missing_houses
from rankfall.books import need_book, net, owed


class NeedBookTest(unittest.TestCase):
    def test_a_book_is_let_by(self):
        for book in GOOD_BOOKS:
            with self.subTest(book=book):
                self.assertIsNone(need_book(book))

    def test_a_bad_book_is_refused_by_its_first_wrong_thing(self):
        refuses_bad_books(self, need_book)

    def test_it_may_be_asked_again(self):
        for _ in range(2):
            self.assertIsNone(need_book(TANGLED))
            refuses_bad_books(self, need_book)


class NetTest(unittest.TestCase):
    def test_a_bad_book_is_refused(self):
        refuses_bad_books(self, net)

    def test_all_houses_at_the_edges_of_a_book_are_told(self):
        for book in GOOD_BOOKS:
            with self.subTest(book=book):
                left = net(book)
                self.assertIs(type(left), list)
                self.assertEqual(len(left), len(book[0]))
                self.assertEqual(sum(left), sum(book[0]))

    def test_no_claims_leave_the_cash(self):
        self.assertEqual(net(((3, 0, 999), ())), [3, 0, 999])

    def test_owed_more_less_and_nothing(self):
        # House 0 is owed more than it owes, house 1 less, house 2 nothing at all, house 3 as much as it owes.
        book = ((1, 2, 3, 4), ((1, 0, 9, 1), (0, 3, 2, 5), (3, 1, 2, 1)))
        self.assertEqual(net(book), [8, -5, 3, 4])

    def test_below_nought(self):
        self.assertEqual(net(((0, 0), ((0, 1, 999, 1), (0, 1, 999, 2)))), [-1998, 1998])

    def test_just_nought(self):
        self.assertEqual(net(((4, 1), ((0, 1, 4, 1),))), [0, 5])

    def test_several_claims_of_all_ranks_count(self):
        self.assertEqual(net(TANGLED), [7 - 26 + 11, 0 - 13 + 20, 12 - 3 + 11])

    def test_the_answer_may_be_changed_and_asked_again(self):
        book = ((4, 1), ((0, 1, 6, 1),))
        first = net(book)
        first[0] = 100
        first.append(5)
        self.assertEqual(net(book), [-2, 7])
        self.assertEqual(book, ((4, 1), ((0, 1, 6, 1),)))


class OwedTest(unittest.TestCase):
    def test_what_each_house_owes(self):
        self.assertEqual([owed(TANGLED, house) for house in range(3)], [26, 13, 3])

    def test_it_may_be_asked_again(self):
        self.assertEqual([owed(TANGLED, 0), owed(TANGLED, 0)], [26, 26])

    def test_a_house_that_owes_nothing(self):
        book = ((5, 5, 5), ((0, 1, 7, 1),))
        self.assertEqual([owed(book, house) for house in range(3)], [7, 0, 0])
        self.assertEqual(owed(((0,), ()), 0), 0)

    def test_what_is_owed_has_nothing_to_do_with_the_coins(self):
        self.assertEqual(owed(((0, 0), ((0, 1, 999, 1),) * 24), 0), 999 * 24)

    def test_no_such_house(self):
        refuses_missing_houses(self, owed)

    def test_a_bad_book_is_refused_ahead_of_the_house(self):
        for house in [0, -1, 9, 1000]:
            refuses_bad_books(self, lambda book: owed(book, house))


class PlacesTest(unittest.TestCase):
    def test_each_is_defined_in_its_file(self):
        for function in [need_book, net, owed]:
            self.assertEqual(function.__module__, "rankfall.books")


if __name__ == "__main__":
    unittest.main()
