import unittest
from itertools import permutations

from cases import (
    AT_ONCE, CHAIN, GOOD_BOOKS, JUST, LEAK, MIDDLE_BOOKS, RING, SHORT_BOOKS, TANGLED, TINY_BOOKS, full_books,
    numbers_from, refuses_bad_books,
)
from plain import houses_of, losses_plainly, paper_plainly, shows_plainly, walked_most
from rankfall.clearing import best
from rankfall.falling import failing
from rankfall.papers import losses, paper, shows

# Each house but the last one falls behind the one with the next number.
BACKWARD = ((1, 0, 2, 3), ((0, 3, 3, 1), (1, 0, 2, 1), (2, 1, 5, 1), (1, 3, 3, 1)))


class PaperTest(unittest.TestCase):
    def test_a_bad_book_is_refused(self):
        refuses_bad_books(self, paper)

    def test_none_fails(self):
        for book in [RING, JUST, ((0,), ()), ((5, 0), ((0, 1, 5, 1),))]:
            self.assertEqual(paper(book), [])

    def test_one_fails(self):
        self.assertEqual(paper(((4, 0), ((0, 1, 5, 1),))), [(0, 4, 5)])
        self.assertEqual(paper(((0, 4, 9), ((1, 0, 5, 1), (1, 2, 7, 2), (2, 1, 2, 1)))), [(1, 6, 12)])

    def test_several_fail(self):
        self.assertEqual(paper(CHAIN), [(0, 2, 5), (1, 3, 5), (2, 4, 5)])
        self.assertEqual(paper(AT_ONCE), [(0, 0, 3), (1, 1, 5), (2, 10, 15)])

    def test_a_lesser_house_that_can_be_shown_by_now_goes_ahead(self):
        self.assertEqual(paper(BACKWARD), [(2, 2, 5), (1, 2, 5), (0, 2, 3)])
        # Houses 2 and 3 can be shown at first. Behind house 2, house 1 can be too, and it is less than house 3.
        book = ((0, 0, 1, 0), ((1, 0, 2, 1), (2, 1, 2, 1), (3, 0, 9, 1)))
        self.assertEqual(paper(book), [(2, 1, 2), (1, 1, 2), (3, 0, 9)])

    def test_means_are_by_the_rows_ahead_alone(self):
        # The ring of houses 0, 2 and 1 runs dry by the best clearing, but only once all three have fallen.
        book = ((1, 0, 0, 0), ((0, 2, 10, 1), (1, 0, 8, 2), (1, 3, 2, 1), (2, 1, 10, 1)))
        self.assertEqual(best(book), [1, 0, 1, 1])
        self.assertEqual(paper(book), [(0, 9, 10), (2, 9, 10), (1, 9, 10)])

    def test_tiny_books_against_all_payments(self):
        for book in TINY_BOOKS:
            self.assertEqual(paper(book), paper_plainly(book, walked_most))

    def test_middle_books_against_plain_steps(self):
        for book in MIDDLE_BOOKS + GOOD_BOOKS + SHORT_BOOKS + full_books():
            self.assertEqual(paper(book), paper_plainly(book))

    def test_just_the_houses_that_fail_have_rows_and_it_shows(self):
        unlike = 0
        for book in TINY_BOOKS + MIDDLE_BOOKS + GOOD_BOOKS + SHORT_BOOKS + [LEAK] + full_books():
            rows = paper(book)
            shown = [row[0] for row in rows]
            self.assertEqual(sorted(shown), failing(book))
            self.assertIs(shows(book, rows), True)
            unlike += shown != sorted(shown)
        self.assertGreater(unlike, 10)


class ShowsTest(unittest.TestCase):
    def test_a_bad_book_is_refused(self):
        for rows in [[], [(0, 0, 1)], [(99, 0, 0)]]:
            refuses_bad_books(self, lambda book: shows(book, rows))

    def test_no_rows(self):
        for book in GOOD_BOOKS + SHORT_BOOKS:
            self.assertIs(shows(book, []), True)

    def test_another_order(self):
        rows = paper(CHAIN)
        for other in permutations(rows):
            self.assertIs(shows(CHAIN, list(other)), list(other) == rows)
        # Houses 0 and 1 fall at once and have nothing to do with one another: either may stand ahead.
        one, two, three = paper(AT_ONCE)
        self.assertIs(shows(AT_ONCE, [two, one, three]), True)
        self.assertIs(shows(AT_ONCE, [one, three, two]), False)
        self.assertIs(shows(AT_ONCE, [three, one, two]), False)

    def test_another_order_with_the_means_that_it_has(self):
        # Behind house 0 alone, house 2 has 9 + 0 + 5 and fails already.
        self.assertIs(shows(AT_ONCE, [(0, 0, 3), (2, 14, 15), (1, 1, 5)]), True)
        self.assertIs(shows(AT_ONCE, [(0, 0, 3), (2, 10, 15), (1, 1, 5)]), False)
        # Behind house 1 alone it has 9 + 3 + 1, and at first 9 + 3 + 5, which is enough.
        self.assertIs(shows(AT_ONCE, [(1, 1, 5), (2, 13, 15)]), True)
        self.assertIs(shows(AT_ONCE, [(2, 17, 15)]), False)

    def test_one_left_out(self):
        one, two, three = paper(CHAIN)
        self.assertIs(shows(CHAIN, [one, two]), True)
        self.assertIs(shows(CHAIN, [one]), True)
        self.assertIs(shows(CHAIN, [one, three]), False)
        self.assertIs(shows(CHAIN, [two, three]), False)
        self.assertIs(shows(CHAIN, [three]), False)

    def test_one_doubled(self):
        one, two, three = paper(CHAIN)
        for rows in [[one, one], [one, one, two, three], [one, two, one, three], [one, two, three, three]]:
            self.assertIs(shows(CHAIN, rows), False)
        self.assertIs(shows(((4, 0), ((0, 1, 5, 1),)), [(0, 4, 5), (0, 4, 5)]), False)

    def test_of_another_house(self):
        # House 3 of the chain stands; the rows are what it has and owes, and what others have and owe.
        for row in [(3, 5, 0), (3, 0, 0), (3, 2, 5), (1, 2, 5), (2, 2, 5)]:
            self.assertIs(shows(CHAIN, [row]), False)
        self.assertIs(shows(JUST, [(0, 5, 5)]), False)
        self.assertIs(shows(JUST, [(3, 5, 0)]), False)
        self.assertIs(shows(JUST, [(0, 4, 5)]), False)

    def test_means_or_owed_one_more_or_less(self):
        for book in [CHAIN, AT_ONCE, BACKWARD]:
            rows = paper(book)
            for at, (house, means, owed) in enumerate(rows):
                for more in [-1, 1]:
                    for wrong in [(house, means + more, owed), (house, means, owed + more)]:
                        self.assertIs(shows(book, rows[:at] + [wrong] + rows[at + 1:]), False)

    def test_a_house_that_there_is_not(self):
        # House -1 must not be taken for the last one, which fails.
        book = ((0, 4), ((1, 0, 5, 1),))
        self.assertIs(shows(book, [(1, 4, 5)]), True)
        for house in [-1, -2, -3, 2, 3, 8, 1000]:
            for means, owed in [(4, 5), (0, 0), (0, 1), (-1, 0)]:
                self.assertIs(shows(book, [(house, means, owed)]), False)
                self.assertIs(shows(book, [(1, 4, 5), (house, means, owed)]), False)
                self.assertIs(shows(book, [(house, means, owed), (1, 4, 5)]), False)
        self.assertIs(shows(((0,), ()), [(0, 0, 0)]), False)

    def test_a_wrong_row_anywhere(self):
        rows = paper(CHAIN)
        for at in range(4):
            for wrong in [(3, 5, 0), (9, 1, 2), (-1, 0, 5)]:
                self.assertIs(shows(CHAIN, rows[:at] + [wrong] + rows[at:]), False)

    def test_many_rows_against_the_plain_words(self):
        numbers = numbers_from(9)
        told = {True: 0, False: 0}
        for book in TINY_BOOKS + MIDDLE_BOOKS[:60] + SHORT_BOOKS:
            rows = paper(book)
            for other in self.twisted(book, rows, numbers):
                expected = shows_plainly(book, other)
                self.assertIs(shows(book, other), expected, (book, other))
                told[expected] += 1
        self.assertGreater(min(told.values()), 200)

    def twisted(self, book, rows, numbers):
        """The rows in other orders, with some left out, doubled or changed."""
        for other in list(permutations(rows))[:12]:
            yield list(other)
        for at, (house, means, owed) in enumerate(rows):
            yield rows[:at] + rows[at + 1:]
            yield rows[:at] + [rows[at]] + rows[at:]
            for k in range(3):
                wrong = [house, means, owed]
                wrong[k] += next(numbers) % 5 - 2
                yield rows[:at] + [tuple(wrong)] + rows[at + 1:]
        for house in houses_of(book):
            yield rows + [(house, next(numbers) % 6, next(numbers) % 6)]


class LossesTest(unittest.TestCase):
    def test_a_bad_book_is_refused(self):
        refuses_bad_books(self, losses)

    def test_nobody_loses_where_nobody_fails(self):
        for book in [RING, JUST, ((0,), ()), ((3,) * 8, ()), ((5, 0), ((0, 1, 5, 1),))]:
            self.assertEqual(losses(book), [0] * len(book[0]))

    def test_some_lose(self):
        self.assertEqual(losses(CHAIN), [0, 3, 2, 1])
        self.assertEqual(losses(AT_ONCE), [0, 0, 7, 5])
        self.assertEqual(losses(((3, 0, 0), ((0, 1, 4, 2), (0, 2, 2, 1), (0, 2, 1, 9)))), [0, 3, 1])

    def test_by_the_best_clearing_not_by_the_worst(self):
        self.assertEqual(losses(((0, 0), ((0, 1, 10, 1), (1, 0, 6, 1)))), [0, 4])

    def test_great_books(self):
        lost = [sum(claim[2] for claim in LEAK[1] if claim[1] == house) for house in range(8)]
        self.assertEqual(losses(LEAK), lost)
        self.assertEqual(losses(((0, 0), ((0, 1, 999, 1),) * 24)), [0, 999 * 24])

    def test_books_against_plain_steps(self):
        for book in TINY_BOOKS + MIDDLE_BOOKS + GOOD_BOOKS + full_books():
            self.assertEqual(losses(book), losses_plainly(book))

    def test_all_losses_are_all_that_is_not_paid(self):
        for book in TINY_BOOKS + MIDDLE_BOOKS:
            self.assertEqual(sum(losses(book)), sum(claim[2] for claim in book[1]) - sum(best(book)))


class AgainTest(unittest.TestCase):
    def test_answers_are_lists_that_may_be_changed(self):
        for book in [CHAIN, AT_ONCE, TANGLED, JUST]:
            for ask in [paper, losses]:
                first = ask(book)
                self.assertIs(type(first), list)
                kept = list(first)
                first.append(50)
                first[0] = 60
                self.assertEqual(ask(book), kept)
                ask(book).clear()
                self.assertEqual(ask(book), kept)

    def test_rows_are_tuples(self):
        for row in paper(CHAIN) + paper(TANGLED):
            self.assertIs(type(row), tuple)
            self.assertEqual([type(number) for number in row], [int, int, int])

    def test_rows_handed_in_are_the_same_afterwards(self):
        for book in [CHAIN, AT_ONCE, TANGLED, RING]:
            for rows in [paper(book), paper(book)[::-1], [(5, 5, 5)], []]:
                kept = list(rows)
                first = shows(book, rows)
                self.assertEqual(rows, kept)
                self.assertIs(shows(book, rows), first)

    def test_a_paper_that_was_changed_shows_no_more_but_a_new_one_does(self):
        rows = paper(CHAIN)
        rows[0] = (0, 9, 9)
        self.assertIs(shows(CHAIN, rows), False)
        self.assertIs(shows(CHAIN, paper(CHAIN)), True)


class PlacesTest(unittest.TestCase):
    def test_each_is_defined_in_its_file(self):
        for function in [paper, shows, losses]:
            self.assertEqual(function.__module__, "rankfall.papers")


if __name__ == "__main__":
    unittest.main()
