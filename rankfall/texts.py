"""Texts: books written as rows of words."""

from rankfall.books import need_book
from rankfall.errors import BadText

FIGURES = "0123456789"
MOST_FIGURES = 9


def written(book):
    """The book as a text."""
    need_book(book)
    cash, claims = book
    rows = [" ".join(["cash"] + [str(coins) for coins in cash])]
    for debtor, creditor, amount, rank in claims:
        rows.append(f"{debtor} owes {creditor} {amount} at {rank}")
    return "\n".join(rows)


def read(text):
    """The book that is written so."""
    # No other split will do: without the blank, or by lines, Python takes more for a blank or a line end.
    rows = [row.split(" ") for row in text.split("\n")]
    for number, words in enumerate(rows):
        good = _is_cash(words) if number == 0 else _is_claim(words)
        if not good:
            raise BadText(number)
    cash = [int(word) for word in rows[0][1:]]
    claims = []
    for debtor, _, creditor, amount, _, rank in rows[1:]:
        claims.append((int(debtor), int(creditor), int(amount), int(rank)))
    book = (tuple(cash), tuple(claims))
    need_book(book)
    return book


def _is_cash(words):
    """Whether the words are the row of the coins."""
    return words[0] == "cash" and len(words) > 1 and _are_numbers(words[1:])


def _is_claim(words):
    """Whether the words are the row of a claim."""
    if len(words) != 6:
        return False
    debtor, owes, creditor, amount, at, rank = words
    return owes == "owes" and at == "at" and _are_numbers([debtor, creditor, amount, rank])


def _are_numbers(words):
    """Whether each word is a number in one to nine figures, the first one no 0 but for 0."""
    for word in words:
        if not 1 <= len(word) <= MOST_FIGURES or (word[0] == "0" and word != "0"):
            return False
        for letter in word:
            if letter not in FIGURES:
                return False
    return True
