import unittest

from complexsingles.singles import square
from tests.reference import (
    FIVE, INFINITY, LARGEST, MINUS_INFINITY, MINUS_LARGEST, MINUS_ONE, MINUS_ZERO,
    NO_NUMBER_ANSWER, NO_NUMBERS, ONE, THREE, TWO, ZERO, many_singles, mixed_fours, reference_square,
)

SIGNS = (0, 0x80000000)


class SquareTest(unittest.TestCase):
    def check(self, cases):
        """A square is the same whatever the parts' signs and order, so each is asked in all of these."""
        for ar, ai, answer in cases:
            for real_sign in SIGNS:
                for imaginary_sign in SIGNS:
                    real, imaginary = ar ^ real_sign, ai ^ imaginary_sign
                    with self.subTest(real=hex(real), imaginary=hex(imaginary)):
                        self.assertEqual(square(real, imaginary), [answer])
                        self.assertEqual(square(imaginary, real), [answer])

    def test_ordinary_numbers(self):
        self.check([
            (THREE, 0x40800000, 0x41C80000),  # 3 and 4: 25
            (ONE, FIVE, 0x41D00000),
            (MINUS_ONE, TWO, FIVE),
            (0x3F000000, ZERO, 0x3E800000),
            (0x3DCCCCCD, 0x3DCCCCCD, 0x3CA3D70B),  # 0.1 twice, rounded
            (0x5F000000, 0x1F800000, 0x7E800000),  # far apart
        ])

    def test_each_product_is_rounded_ahead_of_the_sum(self):
        # At each of these a product that is not rounded, either one or both, gives another answer.
        self.check([
            (0x403D69FE, 0x4026EB8C, 0x4178FC00),
            (0x3FB77B9A, 0x3FE87C96, 0x40AB5200),
            (0x3FD68068, 0x3F90E6D8, 0x4082DFB8),
            (0x401419CF, 0x40575B1E, 0x41856C04),
        ])

    def test_middle_of_two_singles(self):
        self.check([
            (0x45800800, ZERO, 0x4B801000),  # 4097 squared, 16785409
            (0x45800000, ONE, 0x4B800000),  # 16777216 + 1, down to the even one
            (0x45800000, 0x3F800001, 0x4B800001),
            (0x45800000, 0x3F7FFFFF, 0x4B800000),
            (0x45800801, ONE, 0x4B801004),  # a square that is odd, and 1: up to the even one
            (0x45800802, ONE, 0x4B801006),
        ])

    def test_denormal_numbers(self):
        self.check([
            (0x00000001, 0x00000001, ZERO),
            (0x007FFFFF, 0x007FFFFF, ZERO),
            (0x00000001, ONE, ONE),
            (0x007FFFFF, INFINITY, INFINITY),
        ])

    def test_denormal_results(self):
        self.check([
            (0x1C800000, ZERO, 0x00000200),  # 2 to the -70
            (0x1C800000, 0x1C800000, 0x00000400),
            (0x1FFFFFFF, ZERO, 0x007FFFFF),
            (0x20000000, ZERO, 0x00800000),
            (0x1FB504F3, 0x1FB504F3, 0x00800000),  # two denormals, each rounded up, make a normal number
        ])

    def test_below_the_smallest_denormal(self):
        self.check([
            (0x1A000000, ZERO, ZERO),  # half of it, at the middle: down to the even one
            (0x1A000001, ZERO, 0x00000001),
            (0x19FFFFFF, ZERO, ZERO),
            (0x1A000000, 0x1A000000, ZERO),  # two halves are nothing each
            (0x1A000001, 0x1A000001, 0x00000002),
            (0x1A000000, 0x1C800000, 0x00000200),
            (0x0D800000, 0x0D800000, ZERO),
        ])

    def test_too_large(self):
        self.check([
            (LARGEST, ZERO, INFINITY),
            (LARGEST, MINUS_LARGEST, INFINITY),
            (0x5F800000, ZERO, INFINITY),
            (0x5F7FFFFF, 0x5F7FFFFF, INFINITY),
        ])

    def test_edge_of_too_large(self):
        self.check([
            (0x5F7FFFFF, ZERO, 0x7F7FFFFE),
            (0x5F7FFFFF, 0x59800000, LARGEST),
            (0x5F7FFFFF, 0x599CC470, LARGEST),
            (0x5F7FFFFF, 0x599CC471, INFINITY),
            (0x5F6F771C, 0x5EB50606, LARGEST),  # just below the edge
            (0x5F6F771C, 0x5EB50607, INFINITY),  # just at it
        ])

    def test_zeros(self):
        self.check([(ZERO, ZERO, ZERO), (MINUS_ZERO, THREE, 0x41100000)])

    def test_infinities(self):
        self.check([(INFINITY, x, INFINITY) for x in (ZERO, ONE, 0x00000001, LARGEST, INFINITY, MINUS_INFINITY)])

    def test_no_numbers(self):
        for none in NO_NUMBERS:
            partners = [ZERO, ONE, 0x00000001, LARGEST, INFINITY, none, NO_NUMBERS[0]]
            self.check([(none, x, NO_NUMBER_ANSWER) for x in partners])

    def test_against_floats(self):
        singles = many_singles()
        for ar in singles:
            answers = [square(ar, ai) for ai in singles[:len(singles) // 2]]
            self.assertEqual(answers, [reference_square(ar, ai) for ai in singles[:len(singles) // 2]], hex(ar))
        for ar, ai, br, bi in mixed_fours(10000):
            self.assertEqual(square(ar, ai), reference_square(ar, ai), (hex(ar), hex(ai)))
            self.assertEqual(square(br, bi), reference_square(br, bi), (hex(br), hex(bi)))


if __name__ == "__main__":
    unittest.main()
