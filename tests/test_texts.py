import unittest

from cases import (
    BAD_BOOKS, CHAIN, GOOD_BOOKS, LEAK, MIDDLE_BOOKS, RING, SHORT_BOOKS, SLOW_LEAKS, TANGLED, TINY_BOOKS, full_books,
    great_books, refuses_bad_books,
)
from rankfall.clearing import best, worst
from rankfall.errors import BadBook, BadText
from rankfall.falling import waves
from rankfall.orders import order
from rankfall.papers import paper
from rankfall.texts import read, written

TANGLED_TEXT = """cash 7 0 12
0 owes 1 10 at 2
1 owes 2 5 at 1
0 owes 2 4 at 1
2 owes 0 3 at 9
0 owes 1 6 at 2
1 owes 0 8 at 1
0 owes 2 2 at 9
0 owes 1 4 at 1"""

# What is no number: none, with a nought ahead, signs, blanks of other kinds, letters, too many figures, and figures of
# other writings, all of which Python takes for figures in some way.
NO_NUMBERS = [
    "", "00", "01", "007", "+1", "-1", "-0", "1.0", "1_0", "1,0", "0x1", "1e1", "x", "one", "1x", "x1", "\t1", "1\t",
    "\t", "1234567890", "0000000001", "1" * 50, "\u0661", "\u0967", "1\u0662", "\u00b2", "\u00bd", "\uff11", "\u2160",
    "\u4e00", "\u00a01", "1\u00a0", "\u30001", "1\r", "\x0b1", "1\x0c", "1\x1c", "1\x85", "1\u2028", "\ufeff1", "1\x00",
]

# Rows that are no claim by their words and figures; {} stands where a number that is none is put.
CLAIM_SLOTS = ["{} owes 1 1 at 1", "0 owes {} 1 at 1", "0 owes 1 {} at 1", "0 owes 1 1 at {}"]
NO_CLAIMS = [
    "",
    " ",
    "      ",
    "     ",
    "0",
    "owes",
    "0 owes",
    "0 owes 1",
    "0 owes 1 1",
    "0 owes 1 1 at",
    "0 owes 1 1 at 1 1",
    "0 owes 1 1 at 1 at 1",
    "0 owes 1 at 1",
    "owes 1 1 at 1",
    " 0 owes 1 1 at 1",
    "0 owes 1 1 at 1 ",
    "0  owes 1 1 at 1",
    "0 owes  1 1 at 1",
    "0 owes 1  1 at 1",
    "0 owes 1 1  at 1",
    "0 owes 1 1 at  1",
    "0\towes 1 1 at 1",
    "0 owes\t1 1 at 1",
    "0 owes 1 1 at\t1",
    "0\u00a0owes 1 1 at 1",
    "0 Owes 1 1 at 1",
    "0 OWES 1 1 at 1",
    "0 owe 1 1 at 1",
    "0 owed 1 1 at 1",
    "0 owes 1 1 At 1",
    "0 owes 1 1 by 1",
    "0 at 1 1 owes 1",
    "0 owes 1 at 1 1",
    "0 1 owes 1 at 1",
    "0 owes 1 1 1 1",
    "0 0 1 1 at 1",
    "0 owes 1 1 at 1\r",
    "cash 1 2",
    "cash 1",
    "cash 1 2 3 4 5",
    "# 0 owes 1 1 at 1",
] + [slot.format(word) for slot in CLAIM_SLOTS for word in NO_NUMBERS]

NO_CASH = [
    "",
    " ",
    "  ",
    "\t",
    "cash",
    "cash ",
    "cash  ",
    " cash 1",
    "cash  1",
    "cash 1 ",
    "cash 1  2",
    "cash\t1",
    "cash 1\t2",
    "cash\u00a01",
    "cash 1 2\r",
    "cash\r",
    "Cash 1",
    "CASH 1",
    "cash: 1",
    "cash1",
    "coins 1",
    "\ufeffcash 1",
    "1",
    "1 2",
    "1 cash",
    "1 cash 2",
    "cash cash 1",
    "cash 1 cash",
    "0 owes 1 1 at 1",
] + [f"cash {word}" for word in NO_NUMBERS] + [f"cash 1 {word}" for word in NO_NUMBERS]
NO_CASH += [f"cash {word} 1" for word in NO_NUMBERS]

# Good by words and figures, but no books.
NO_BOOKS = [
    ("cash " + "0 " * 8 + "0", 0, "houses"),
    ("cash " + "1000 " * 29 + "0\n0 owes 0 0 at 0", 0, "houses"),
    ("cash 1000", 0, "cash"),
    ("cash 999999999", 0, "cash"),
    ("cash 0 999 123456789\n0 owes 0 0 at 0", 2, "cash"),
    ("cash 5 5" + "\n0 owes 1 1 at 1" * 25, 0, "claims"),
    ("cash 5 5" + "\n9 owes 9 0 at 0" * 50, 0, "claims"),
    ("cash 5\n0 owes 1 1 at 1", 0, "house"),
    ("cash 5 5\n0 owes 0 1 at 1", 0, "house"),
    ("cash 5 5\n0 owes 1 1 at 1\n999999999 owes 0 1 at 1", 1, "house"),
    ("cash 5 5\n0 owes 1 1 at 1\n0 owes 2 0 at 0", 1, "house"),
    ("cash 5 5\n0 owes 1 0 at 1", 0, "amount"),
    ("cash 5 5\n0 owes 1 1000 at 10", 0, "amount"),
    ("cash 5 5\n0 owes 1 999999999 at 999999999", 0, "amount"),
    ("cash 5 5\n0 owes 1 1 at 0", 0, "rank"),
    ("cash 5 5\n0 owes 1 1 at 9\n1 owes 0 1 at 10", 1, "rank"),
]


class WrittenTest(unittest.TestCase):
    def test_rows_with_one_line_end_between(self):
        self.assertEqual(written(TANGLED), TANGLED_TEXT)

    def test_no_claims(self):
        self.assertEqual(written(((0,), ())), "cash 0")
        self.assertEqual(written(((10, 0, 999), ())), "cash 10 0 999")

    def test_a_bad_book_is_refused(self):
        refuses_bad_books(self, written)

    def test_it_may_be_asked_again(self):
        for book in GOOD_BOOKS:
            self.assertEqual(written(book), written(book))
            self.assertIs(type(written(book)), str)


class ReadTest(unittest.TestCase):
    def test_a_text(self):
        self.assertEqual(read(TANGLED_TEXT), TANGLED)
        self.assertEqual(read("cash 0"), ((0,), ()))
        self.assertEqual(read("cash 10 0 999\n2 owes 0 100 at 9"), ((10, 0, 999), ((2, 0, 100, 9),)))

    def test_there_and_back(self):
        books = GOOD_BOOKS + SHORT_BOOKS + TINY_BOOKS + MIDDLE_BOOKS + SLOW_LEAKS + [LEAK]
        for book in books + full_books() + great_books():
            text = written(book)
            self.assertEqual(read(text), book)
            self.assertEqual(written(read(text)), text)

    def test_it_is_tuples_of_whole_numbers(self):
        for book in GOOD_BOOKS + SHORT_BOOKS:
            again = read(written(book))
            cash, claims = again
            self.assertEqual([type(again), type(cash), type(claims)], [tuple] * 3)
            for row in (cash,) + claims:
                self.assertIs(type(row), tuple)
                self.assertEqual({type(number) for number in row}, {int})

    def test_what_is_read_falls_as_what_was_written(self):
        for book in [CHAIN, RING, TANGLED, LEAK] + MIDDLE_BOOKS[:30]:
            for ask in [best, worst, waves, paper, order]:
                self.assertEqual(ask(read(written(book))), ask(book))

    def test_it_may_be_asked_again(self):
        for _ in range(2):
            self.assertEqual(read(TANGLED_TEXT), TANGLED)
            with self.assertRaises(BadText):
                read(TANGLED_TEXT + "\n")


class RefusedTest(unittest.TestCase):
    def refuses(self, text, row):
        with self.subTest(text=text):
            with self.assertRaises(BadText) as caught:
                read(text)
            self.assertEqual(caught.exception.row, row)

    def test_rows_of_the_coins_that_are_none(self):
        for row in NO_CASH:
            self.refuses(row, 0)
            self.refuses(row + "\n0 owes 1 1 at 1", 0)
            self.refuses(row + "\n", 0)

    def test_rows_of_a_claim_that_are_none(self):
        good = "0 owes 1 1 at 1"
        for row in NO_CLAIMS:
            self.refuses(f"cash 5 5\n{row}", 1)
            self.refuses(f"cash 5 5\n{good}\n{row}\n{good}", 2)
            self.refuses(f"cash 5 5\n{good}\n{good}\n{row}", 3)
            self.refuses("cash 5 5" + f"\n{good}" * 40 + f"\n{row}", 41)

    def test_the_empty_text_is_one_row_of_an_empty_word(self):
        self.refuses("", 0)

    def test_line_ends(self):
        self.refuses("\n", 0)
        self.refuses("\ncash 5", 0)
        self.refuses("cash 5\n", 1)
        self.refuses("cash 5\n\n", 1)
        self.refuses("cash 5 5\n0 owes 1 1 at 1\n", 2)
        self.refuses("cash 5 5\n\n0 owes 1 1 at 1", 1)
        self.refuses("cash 5 5\n0 owes 1 1 at 1\n\n1 owes 0 1 at 1", 2)

    def test_other_line_ends(self):
        for end in ["\r", "\r\n", "\n\r", "\x0b", "\x0c", "\x1c", "\x85", "\u2028", "\u2029", "\\n"]:
            self.refuses(f"cash 5 5{end}0 owes 1 1 at 1", 1 if end == "\n\r" else 0)
            self.refuses(f"cash 5 5\n0 owes 1 1 at 1{end}", 2 if end == "\n\r" else 1)
            self.refuses(f"cash 5 5\n0 owes 1 1 at 1{end}1 owes 0 1 at 1", 2 if end == "\n\r" else 1)

    def test_the_first_of_two_rows_is_told(self):
        good = "0 owes 1 1 at 1"
        for row in NO_CLAIMS[::7]:
            self.refuses(f"cash 5 5\n{row}\n{good}\n{row}", 1)
            self.refuses(f"cash 5 5\n{good}\n{row}\n{row}", 2)
            self.refuses(f"cash 05\n{good}\n{row}", 0)

    def test_a_row_that_is_not_so_is_told_ahead_of_a_book_that_is_none(self):
        for text, _, _ in NO_BOOKS:
            self.refuses(text + "\n0 owes 1 1 at 01", text.count("\n") + 1)
            self.refuses("c" + text, 0)

    def test_no_books(self):
        for text, at, why in NO_BOOKS:
            with self.subTest(text=text):
                with self.assertRaises(BadBook) as caught:
                    read(text)
                self.assertEqual((caught.exception.at, caught.exception.why), (at, why))

    def test_bad_books_as_texts(self):
        seen = 0
        for book, at, why in BAD_BOOKS:
            cash, claims = book
            if cash and min(cash + sum(claims, ())) >= 0:
                seen += 1
                rows = [f"{claim[0]} owes {claim[1]} {claim[2]} at {claim[3]}" for claim in claims]
                with self.assertRaises(BadBook) as caught:
                    read("\n".join([" ".join(["cash"] + [str(coins) for coins in cash])] + rows))
                self.assertEqual((caught.exception.at, caught.exception.why), (at, why))
        self.assertGreater(seen, 20)

    def test_just_nine_figures(self):
        with self.assertRaises(BadBook):
            read("cash 100000000")
        self.refuses("cash 1000000000", 0)
        with self.assertRaises(BadBook):
            read("cash 5 5\n0 owes 1 100000000 at 1")
        self.refuses("cash 5 5\n0 owes 1 1000000000 at 1", 1)


class PlacesTest(unittest.TestCase):
    def test_each_is_defined_in_its_file(self):
        for function in [written, read]:
            self.assertEqual(function.__module__, "rankfall.texts")


if __name__ == "__main__":
    unittest.main()
