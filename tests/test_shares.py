import math
import unittest
from fractions import Fraction

from jointhold.shares import NOUGHT, ONE, less, lowest, piece_of, plus, total_of

LARGEST = 10**400 - 1
LARGEST_PIECE = 10**60 - 1

# Terms lowest and not, nought over small and large, one, above one, and some hundred digits.
SHARES = (
    (0, 1),
    (0, 7),
    (0, LARGEST),
    (1, 1),
    (6, 6),
    (LARGEST, LARGEST),
    (1, 2),
    (2, 4),
    (3, 6),
    (1, 3),
    (2, 3),
    (4, 6),
    (1, 6),
    (5, 6),
    (7, 20),
    (35, 100),
    (9, 4),
    (1, LARGEST),
    (LARGEST, 1),
    (LARGEST - 1, LARGEST),
    (2**700, 2**701),
    (3**500 * 4, 3**501 * 2),
    (7**200, 11**300),
)


def told(fraction):
    return (fraction.numerator, fraction.denominator)


def exact(share):
    return Fraction(share[0], share[1])


class SharesTest(unittest.TestCase):
    def check_share(self, share, awaited):
        self.assertIs(type(share), tuple)
        self.assertEqual([type(number) for number in share], [int, int])
        self.assertEqual(share, awaited)


class ConstantsTest(SharesTest):
    def test_constants(self):
        self.check_share(NOUGHT, (0, 1))
        self.check_share(ONE, (1, 1))


class LowestTest(SharesTest):
    def test_ordinary(self):
        self.check_share(lowest(1, 3), (1, 3))
        self.check_share(lowest(2, 4), (1, 2))
        self.check_share(lowest(12, 18), (2, 3))
        self.check_share(lowest(18, 12), (3, 2))
        self.check_share(lowest(8, 2), (4, 1))

    def test_nought(self):
        self.check_share(lowest(0, 1), (0, 1))
        self.check_share(lowest(0, 12), (0, 1))
        self.check_share(lowest(0, LARGEST), (0, 1))

    def test_equal_numbers(self):
        self.check_share(lowest(1, 1), (1, 1))
        self.check_share(lowest(17, 17), (1, 1))
        self.check_share(lowest(LARGEST, LARGEST), (1, 1))

    def test_hundreds_of_digits(self):
        self.check_share(lowest(7**400 * 6, 7**400 * 10), (3, 5))
        self.check_share(lowest(2**1300, 2**1301), (1, 2))
        self.check_share(lowest(LARGEST - 1, LARGEST), (LARGEST - 1, LARGEST))
        self.check_share(lowest(3 * 10**399, 9 * 10**399), (1, 3))

    def test_consecutive_fibonacci_numbers_of_some_hundred_digits(self):
        # The most steps that finding a common divisor can take.
        small, great = 1, 1
        while great + small < 10**400:
            small, great = great, small + great
        self.check_share(lowest(small, great), (small, great))
        self.check_share(lowest(great, small), (great, small))

    def test_all_small_terms(self):
        for top in range(0, 31):
            for below in range(1, 31):
                divisor = math.gcd(top, below)
                self.check_share(lowest(top, below), (top // divisor, below // divisor))


class PlusTest(SharesTest):
    def test_ordinary(self):
        self.check_share(plus((1, 2), (1, 3)), (5, 6))
        self.check_share(plus((1, 3), (1, 3)), (2, 3))
        self.check_share(plus((1, 6), (1, 3)), (1, 2))
        self.check_share(plus((3, 10), (1, 6)), (7, 15))
        self.check_share(plus((2, 3), (1, 3)), (1, 1))
        self.check_share(plus((2, 3), (2, 3)), (4, 3))

    def test_with_nought(self):
        self.check_share(plus((0, 1), (0, 1)), (0, 1))
        self.check_share(plus((0, 9), (0, 6)), (0, 1))
        self.check_share(plus((2, 4), (0, 5)), (1, 2))
        self.check_share(plus((0, LARGEST), (6, 9)), (2, 3))

    def test_terms_not_lowest(self):
        self.check_share(plus((2, 4), (3, 6)), (1, 1))
        self.check_share(plus((10, 40), (9, 36)), (1, 2))

    def test_all_pairs(self):
        for one in SHARES:
            for other in SHARES:
                self.check_share(plus(one, other), told(exact(one) + exact(other)))

    def test_all_small_pairs(self):
        shares = [(top, below) for below in range(1, 13) for top in range(0, below + 2)]
        for one in shares:
            for other in shares:
                self.check_share(plus(one, other), told(exact(one) + exact(other)))


class PieceTest(SharesTest):
    def test_ordinary(self):
        self.check_share(piece_of((1, 1), 1, 3), (1, 3))
        self.check_share(piece_of((2, 3), 1, 2), (1, 3))
        self.check_share(piece_of((2, 3), 3, 4), (1, 2))
        self.check_share(piece_of((6, 8), 2, 3), (1, 2))

    def test_none_of_it(self):
        self.check_share(piece_of((2, 3), 0, 5), (0, 1))
        self.check_share(piece_of((LARGEST, 7), 0, LARGEST_PIECE), (0, 1))

    def test_all_of_it(self):
        self.check_share(piece_of((2, 3), 5, 5), (2, 3))
        self.check_share(piece_of((4, 6), 1, 1), (2, 3))
        self.check_share(piece_of((4, 6), LARGEST_PIECE, LARGEST_PIECE), (2, 3))

    def test_more_than_all_of_it(self):
        self.check_share(piece_of((1, 3), 6, 4), (1, 2))

    def test_twentieths(self):
        for many in range(0, 21):
            self.check_share(piece_of((2, 3), many, 20), told(Fraction(2 * many, 60)))
        self.check_share(piece_of((1, 1), 5, 20), (1, 4))
        self.check_share(piece_of((1, 1), 20, 20), (1, 1))

    def test_of_nought(self):
        self.check_share(piece_of((0, 4), 3, 20), (0, 1))

    def test_all_shares(self):
        for share in SHARES:
            for many, of in ((0, 1), (1, 2), (7, 20), (20, 20), (1, LARGEST_PIECE), (LARGEST_PIECE, 9), (6, 4)):
                self.check_share(piece_of(share, many, of), told(exact(share) * Fraction(many, of)))


class LessTest(SharesTest):
    def test_ordinary(self):
        self.assertIs(less((1, 3), (1, 2)), True)
        self.assertIs(less((1, 2), (1, 3)), False)
        self.assertIs(less((3, 7), (4, 9)), True)
        self.assertIs(less((4, 9), (3, 7)), False)
        self.assertIs(less((0, 5), (1, LARGEST)), True)
        self.assertIs(less((1, LARGEST), (0, 5)), False)

    def test_equal_in_other_terms(self):
        self.assertIs(less((1, 2), (1, 2)), False)
        self.assertIs(less((1, 2), (2, 4)), False)
        self.assertIs(less((2, 4), (1, 2)), False)
        self.assertIs(less((0, 1), (0, LARGEST)), False)
        self.assertIs(less((0, LARGEST), (0, 1)), False)
        self.assertIs(less((LARGEST, LARGEST), (1, 1)), False)

    def test_least_difference(self):
        nearly_one = (LARGEST - 1, LARGEST)
        still_less = (LARGEST - 2, LARGEST - 1)
        self.assertIs(less(nearly_one, (1, 1)), True)
        self.assertIs(less((1, 1), nearly_one), False)
        self.assertIs(less(still_less, nearly_one), True)
        self.assertIs(less(nearly_one, still_less), False)

    def test_all_pairs(self):
        for one in SHARES:
            for other in SHARES:
                self.assertIs(less(one, other), exact(one) < exact(other))


class TotalTest(SharesTest):
    def test_none(self):
        self.check_share(total_of([]), (0, 1))
        self.check_share(total_of(()), (0, 1))

    def test_one(self):
        self.check_share(total_of([(2, 3)]), (2, 3))
        self.check_share(total_of([(4, 6)]), (2, 3))
        self.check_share(total_of(((0, 6),)), (0, 1))

    def test_several(self):
        self.check_share(total_of([(1, 2), (1, 3), (1, 6)]), (1, 1))
        self.check_share(total_of(((1, 2), (2, 8), (0, 3))), (3, 4))

    def test_sixty_like_ones(self):
        self.check_share(total_of([(1, 60)] * 60), (1, 1))
        self.check_share(total_of(((2, 90),) * 60), (4, 3))
        self.check_share(total_of([(7, LARGEST)] * 60), told(Fraction(420, LARGEST)))

    def test_list_and_tuple_alike(self):
        self.check_share(total_of(list(SHARES)), told(sum(exact(share) for share in SHARES)))
        self.check_share(total_of(tuple(SHARES)), told(sum(exact(share) for share in SHARES)))

    def test_sixty_unlike_belows_of_four_hundred_digits(self):
        shares = [(3**k + 1, LARGEST - k) for k in range(60)]
        self.check_share(total_of(shares), told(sum(exact(share) for share in shares)))

    def test_what_was_handed_in_stays(self):
        shares = [(2, 4), (0, 9), (5, 15)]
        total_of(shares)
        self.assertEqual(shares, [(2, 4), (0, 9), (5, 15)])

    def test_nought_stays_nought(self):
        total_of([(1, 2), (1, 3)])
        self.assertEqual(NOUGHT, (0, 1))
        self.check_share(total_of([]), (0, 1))


if __name__ == "__main__":
    unittest.main()
