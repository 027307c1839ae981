import unittest

from cases import AT_ONCE, CHAIN, JUST, MIDDLE_BOOKS, RING, TANGLED, TINY_BOOKS
from rankfall.clearing import best, is_clearing, left, worst
from rankfall.falling import failing, felled, needs, waves
from rankfall.papers import losses, paper, shows


def side_by_side(one, other):
    """One book of two that have nothing to do with one another."""
    shift = len(one[0])
    moved = [(debtor + shift, creditor + shift, amount, rank) for debtor, creditor, amount, rank in other[1]]
    return (one[0] + other[0], one[1] + tuple(moved))


def pairs():
    """Pairs of books that are a book side by side."""
    small = [CHAIN, RING, AT_ONCE, JUST, TANGLED, ((3,), ())]
    small += [book for book in TINY_BOOKS[:25] + MIDDLE_BOOKS[:25] if len(book[0]) <= 4 and len(book[1]) <= 12]
    return [(one, other) for one in small for other in small[:8]]


class SideBySideTest(unittest.TestCase):
    def test_clearings(self):
        for one, other in pairs():
            both = side_by_side(one, other)
            self.assertEqual(best(both), best(one) + best(other))
            self.assertEqual(worst(both), worst(one) + worst(other))
            for ahead in [best, worst]:
                for behind in [best, worst]:
                    payments = ahead(one) + behind(other)
                    self.assertIs(is_clearing(both, payments), True)
                    self.assertEqual(left(both, payments), left(one, ahead(one)) + left(other, behind(other)))

    def test_failing_houses_needs_and_losses(self):
        for one, other in pairs():
            both = side_by_side(one, other)
            shift = len(one[0])
            self.assertEqual(failing(both), failing(one) + [house + shift for house in failing(other)])
            needed = [needs(one, house) for house in range(shift)]
            needed += [needs(other, house) for house in range(len(other[0]))]
            self.assertEqual([needs(both, house) for house in range(len(both[0]))], needed)
            self.assertEqual(losses(both), losses(one) + losses(other))

    def test_felled(self):
        for one, other in pairs():
            both = side_by_side(one, other)
            shift = len(one[0])
            for house in range(shift):
                self.assertEqual(felled(both, house), felled(one, house))
            for house in range(len(other[0])):
                self.assertEqual(felled(both, house + shift), [k + shift for k in felled(other, house)])

    def test_waves_fall_at_once(self):
        for one, other in pairs():
            shift = len(one[0])
            ahead, behind = waves(one), [[house + shift for house in wave] for wave in waves(other)]
            together = []
            for k in range(max(len(ahead), len(behind))):
                together.append((ahead[k] if k < len(ahead) else []) + (behind[k] if k < len(behind) else []))
            self.assertEqual(waves(side_by_side(one, other)), together)

    def test_papers(self):
        for one, other in pairs():
            both = side_by_side(one, other)
            moved = [(house + len(one[0]), means, owed) for house, means, owed in paper(other)]
            self.assertEqual(paper(both), paper(one) + moved)
            self.assertIs(shows(both, moved + paper(one)), True)


if __name__ == "__main__":
    unittest.main()
