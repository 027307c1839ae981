import unittest

from cases import AT_ONCE, CHAIN, JUST, MIDDLE_BOOKS, RING, TANGLED, TINY_BOOKS
from plain import side_by_side
from rankfall.clearing import best, is_clearing, left, worst
from rankfall.falling import failing, felled, needs, waves
from rankfall.merging import merged
from rankfall.orders import order, played
from rankfall.papers import losses, paper, shows
from rankfall.play import stilled
from rankfall.texts import read, written


def pairs():
    """Pairs of books that are a book side by side."""
    small = [CHAIN, RING, AT_ONCE, JUST, TANGLED, ((3,), ())]
    small += [book for book in TINY_BOOKS[:25] + MIDDLE_BOOKS[:25] if len(book[0]) <= 4 and len(book[1]) <= 12]
    return [(one, other) for one in small for other in small[:8]]


class SideBySideTest(unittest.TestCase):
    def test_clearings(self):
        for one, other in pairs():
            both = side_by_side(one, other)
            self.assertEqual(best(both), best(one) + best(other))
            self.assertEqual(worst(both), worst(one) + worst(other))
            for ahead in [best, worst]:
                for behind in [best, worst]:
                    payments = ahead(one) + behind(other)
                    self.assertIs(is_clearing(both, payments), True)
                    self.assertEqual(left(both, payments), left(one, ahead(one)) + left(other, behind(other)))

    def test_failing_houses_needs_and_losses(self):
        for one, other in pairs():
            both = side_by_side(one, other)
            shift = len(one[0])
            self.assertEqual(failing(both), failing(one) + [house + shift for house in failing(other)])
            needed = [needs(one, house) for house in range(shift)]
            needed += [needs(other, house) for house in range(len(other[0]))]
            self.assertEqual([needs(both, house) for house in range(len(both[0]))], needed)
            self.assertEqual(losses(both), losses(one) + losses(other))

    def test_felled(self):
        for one, other in pairs():
            both = side_by_side(one, other)
            shift = len(one[0])
            for house in range(shift):
                self.assertEqual(felled(both, house), felled(one, house))
            for house in range(len(other[0])):
                self.assertEqual(felled(both, house + shift), [k + shift for k in felled(other, house)])

    def test_waves_fall_at_once(self):
        for one, other in pairs():
            shift = len(one[0])
            ahead, behind = waves(one), [[house + shift for house in wave] for wave in waves(other)]
            together = []
            for k in range(max(len(ahead), len(behind))):
                together.append((ahead[k] if k < len(ahead) else []) + (behind[k] if k < len(behind) else []))
            self.assertEqual(waves(side_by_side(one, other)), together)

    def test_papers(self):
        for one, other in pairs():
            both = side_by_side(one, other)
            moved = [(house + len(one[0]), means, owed) for house, means, owed in paper(other)]
            self.assertEqual(paper(both), paper(one) + moved)
            self.assertIs(shows(both, moved + paper(one)), True)

    def test_paying_on(self):
        for one, other in pairs():
            both = side_by_side(one, other)
            last = len(both[0]) - 1
            for picks in [[], [0, last] * 5, [last] * 9]:
                self.assertEqual(stilled(both, picks), stilled(one, []) + stilled(other, []))

    def test_orders(self):
        for one, other in pairs():
            both = side_by_side(one, other)
            payments, held = played(one, order(one))
            more_payments, more_held = played(other, order(other))
            self.assertEqual(played(both, order(both)), (payments + more_payments, held + more_held))

    def test_merged_within_one_of_them(self):
        for one, other in pairs():
            both = side_by_side(one, other)
            if len(one[0]) > 1:
                self.assertEqual(merged(both, 0, 1), side_by_side(merged(one, 0, 1), other))

    def test_texts(self):
        for one, other in pairs():
            both = side_by_side(one, other)
            self.assertEqual(read(written(both)), side_by_side(read(written(one)), read(written(other))))


if __name__ == "__main__":
    unittest.main()
