import unittest

from complexsingles.singles import polynomial
from tests.reference import (
    EIGHT, FIVE, INFINITY, KINDS, LARGEST, MINUS_INFINITY, MINUS_ONE, MINUS_ZERO,
    NO_NUMBER_ANSWER, NO_NUMBERS, ONE, THREE, TWO, ZERO,
    kinds_numbers, mixed_numbers, reference_polynomial, reference_product, reference_sum_of,
)

HUGE = 0x71800000  # 2 to the 100; its square is too large for a single
NONE = NO_NUMBER_ANSWER
HALF_STEP = 0x33800000  # 2 to the -24: half the step from 1 to the next single


class PolynomialTest(unittest.TestCase):
    def check(self, cases):
        for c, z, answer in cases:
            with self.subTest(c=[hex(bits) for bits in c], z=[hex(bits) for bits in z]):
                self.assertEqual(polynomial(len(c) // 2, c, z), [0] + answer)

    def check_against_floats(self, n, c, z):
        self.assertEqual(polynomial(n, c, z), reference_polynomial(n, c, z), (n, c, z))

    def test_one_coefficient_is_answered_as_it_is(self):
        for z in ([ZERO, ZERO], [THREE, FIVE], [INFINITY, NO_NUMBERS[0]], [NO_NUMBERS[-1], MINUS_ZERO]):
            self.check([
                ([THREE, 0xC0A00000], z, [THREE, 0xC0A00000]),
                ([MINUS_ZERO, ZERO], z, [MINUS_ZERO, ZERO]),
                ([ZERO, MINUS_ZERO], z, [ZERO, MINUS_ZERO]),
                ([0x00000001, 0x807FFFFF], z, [0x00000001, 0x807FFFFF]),
                ([INFINITY, MINUS_INFINITY], z, [INFINITY, MINUS_INFINITY]),
            ])
            for none in NO_NUMBERS:
                self.check([
                    ([none, ONE], z, [NONE, ONE]),
                    ([ONE, none], z, [ONE, NONE]),
                    ([none, none], z, [NONE, NONE]),
                ])

    def test_two_coefficients(self):
        self.check([
            ([ONE, TWO, THREE, ZERO], [TWO, ZERO], [0x40E00000, TWO]),  # 1 + 2 i and 3 times 2
            ([ONE, ZERO, ONE, TWO], [THREE, FIVE], [0xC0C00000, 0x41300000]),  # 1 and -7 + 11 i
            ([ZERO, FIVE, ZERO, ONE], [ZERO, ONE], [MINUS_ONE, FIVE]),
        ])

    def test_three_coefficients(self):
        self.check([
            ([ONE, ZERO, TWO, ZERO, THREE, ZERO], [TWO, ZERO], [0x41880000, ZERO]),  # 1 + 4 + 12
            ([ONE, ZERO, TWO, ZERO, THREE, ZERO], [ZERO, ONE], [0xC0000000, TWO]),  # 1 + 2 i - 3
            ([ONE, ZERO, TWO, ZERO, THREE, ZERO], [MINUS_ONE, ZERO], [TWO, ZERO]),
            ([ONE, TWO, THREE, FIVE, EIGHT, MINUS_ONE], [ONE, ONE], [ONE, 0x41D00000]),  # 1 + 26 i
        ])

    def test_sixty_four_coefficients(self):
        self.check([
            ([ONE, ZERO] * 64, [ONE, ZERO], [0x42800000, ZERO]),
            ([ONE, ZERO] * 64, [MINUS_ONE, ZERO], [ZERO, ZERO]),
            ([ZERO, ONE] * 64, [ONE, ZERO], [ZERO, 0x42800000]),
            ([ZERO, ZERO] * 63 + [ONE, ZERO], [TWO, ZERO], [0x5F000000, ZERO]),  # 2 to the 63
            ([ZERO, ZERO] * 63 + [ONE, ZERO], [ZERO, ONE], [ZERO, MINUS_ONE]),  # i to the 63
            ([THREE, FIVE] + [ONE, ONE] * 63, [ZERO, ZERO], [THREE, FIVE]),
        ])

    def test_refused(self):
        for n in (0, 65, 4294967295):
            for z in ([ZERO, ZERO], [ONE, TWO], [NO_NUMBERS[0], INFINITY]):
                self.assertEqual(polynomial(n, [], z), [-1])

    def test_from_the_last_coefficient_on(self):
        # At z = 1: the last two coefficients are added up first.
        self.check([
            ([HALF_STEP, ZERO, HALF_STEP, ZERO, ONE, ZERO], [ONE, ZERO], [ONE, ZERO]),
            ([ONE, ZERO, HALF_STEP, ZERO, HALF_STEP, ZERO], [ONE, ZERO], [0x3F800001, ZERO]),
            ([ZERO, HALF_STEP, ZERO, HALF_STEP, ZERO, ONE], [ONE, ZERO], [ZERO, ONE]),
            ([ZERO, ONE, ZERO, HALF_STEP, ZERO, HALF_STEP], [ONE, ZERO], [ZERO, 0x3F800001]),
        ])

    def test_no_powers_of_z_are_made(self):
        # The square of z is infinite, or 0, where the products by z one after another are not.
        self.check([
            ([ZERO, ZERO, ZERO, ZERO, 0x0D800000, ZERO], [HUGE, ZERO], [HUGE, ZERO]),
            ([ZERO, ZERO, ZERO, ZERO, HUGE, ZERO], [0x0D800000, ZERO], [0x0D800000, ZERO]),
        ])

    def test_product_is_rounded_ahead_of_the_sum(self):
        # (1 + step) squared is 1 + 2 steps and a rest that rounding takes away.
        self.check([
            ([0xBF800002, ZERO, 0x3F800001, ZERO], [0x3F800001, ZERO], [ZERO, ZERO]),
            ([ZERO, 0xBF800002, ZERO, 0x3F800001], [0x3F800001, ZERO], [ZERO, ZERO]),
        ])

    def test_sum_is_rounded_ahead_of_the_product(self):
        # 1 + half a step is 1, and that times 2 to the 24 and less 2 to the 24 is 0.
        self.check([
            ([0xCB800000, ZERO, HALF_STEP, ZERO, 0x33800000, ZERO], [0x4B800000, ZERO], [ZERO, ZERO]),
        ])

    def test_powers_would_answer_otherwise(self):
        # The value by powers of z, so that the lists below are ones at which the order counts.
        n, c, z = 12, mixed_numbers(12, 3), mixed_numbers(1, 4)
        total, power = c[:2], [ONE, ZERO]
        for k in range(1, n):
            power = reference_product(*power, *z)
            total = reference_sum_of(total, reference_product(*c[2 * k:2 * k + 2], *power))
        self.assertNotEqual([0] + total, reference_polynomial(n, c, z))
        self.check_against_floats(n, c, z)

    def test_mended_products(self):
        for none in NO_NUMBERS:
            self.check([
                ([ONE, TWO, INFINITY, none], [ONE, TWO], [INFINITY, INFINITY]),
                ([ONE, TWO, none, MINUS_INFINITY], [ONE, TWO], [INFINITY, MINUS_INFINITY]),
                ([ONE, TWO, ONE, TWO], [INFINITY, none], [INFINITY, INFINITY]),
                ([ONE, TWO, none, ONE], [INFINITY, INFINITY], [MINUS_INFINITY, INFINITY]),
                ([ONE, TWO, none, HUGE], [HUGE, ONE], [MINUS_INFINITY, INFINITY]),
                ([none, TWO, INFINITY, none], [ONE, TWO], [NONE, INFINITY]),
                ([MINUS_INFINITY, TWO, INFINITY, none], [ONE, TWO], [NONE, INFINITY]),
                ([ONE, TWO, none, TWO], [ONE, TWO], [NONE, NONE]),
            ])

    def test_no_number_on_the_way_stays_one(self):
        # What is no number within must not turn into a zero, whose product would be told.
        for none in NO_NUMBERS:
            self.check([
                ([ONE, TWO, none, ZERO, ONE, ONE], [ONE, ONE], [NONE, NONE]),
                ([ONE, TWO, ZERO, none, ONE, ONE], [ONE, ONE], [NONE, NONE]),
                ([ONE, TWO, none, ONE, ZERO, ZERO], [INFINITY, INFINITY], [NONE, NONE]),
                ([ONE, TWO, none, INFINITY, ZERO, ZERO], [ONE, ONE], [MINUS_INFINITY, INFINITY]),
            ])

    def test_denormal_numbers(self):
        self.check([
            ([0x00000001, 0x00000002, 0x00000003, ZERO], [TWO, ZERO], [0x00000007, 0x00000002]),
            ([ZERO, ZERO, 0x00000001, ZERO], [0x3F000000, ZERO], [ZERO, ZERO]),
            ([0x00000001, ZERO, 0x00000003, ZERO], [0x3F000000, ZERO], [0x00000003, ZERO]),
            ([0x80800000, ZERO, 0x00800001, ZERO], [ONE, ZERO], [0x00000001, ZERO]),
        ])

    def test_zeros(self):
        self.check([
            ([MINUS_ZERO, MINUS_ZERO, MINUS_ZERO, ZERO], [ONE, ZERO], [MINUS_ZERO, ZERO]),
            ([MINUS_ZERO, MINUS_ZERO, MINUS_ZERO, MINUS_ZERO], [ONE, ZERO], [ZERO, MINUS_ZERO]),
            ([ZERO, MINUS_ZERO, MINUS_ZERO, MINUS_ZERO], [ONE, ZERO], [ZERO, MINUS_ZERO]),
            ([MINUS_ZERO, MINUS_ZERO, ONE, ONE], [ZERO, ZERO], [ZERO, ZERO]),
            ([MINUS_ZERO, MINUS_ZERO, ONE, ONE], [MINUS_ZERO, MINUS_ZERO], [ZERO, MINUS_ZERO]),
            ([MINUS_ONE, ZERO, ONE, ZERO], [ONE, ZERO], [ZERO, ZERO]),
        ])

    def test_too_large(self):
        self.check([
            ([ZERO, ZERO, HUGE, ZERO], [HUGE, ZERO], [INFINITY, ZERO]),
            ([LARGEST, ZERO, LARGEST, ZERO], [ONE, ZERO], [INFINITY, ZERO]),
            ([0x73000000, ZERO, LARGEST, ZERO], [ONE, ZERO], [INFINITY, ZERO]),
            ([0x72FFFFFF, ZERO, LARGEST, ZERO], [ONE, ZERO], [LARGEST, ZERO]),
        ])

    def test_ordinary_lists_against_floats(self):
        for n in range(1, 65):
            for seed in range(4):
                self.check_against_floats(n, mixed_numbers(n, 100 * n + seed), mixed_numbers(1, 7000 + 100 * n + seed))

    def test_lists_of_all_kinds_against_floats(self):
        for n in (1, 2, 3, 4, 5, 64):
            for seed in range(60):
                self.check_against_floats(n, kinds_numbers(n, 100 * n + seed), kinds_numbers(1, 7000 + 100 * n + seed))

    def test_kinds_of_z_against_floats(self):
        for zr in KINDS:
            for zi in KINDS:
                for n in (2, 3):
                    self.check_against_floats(n, mixed_numbers(n, zr % 1000), [zr, zi])
                    self.check_against_floats(n, kinds_numbers(n, zr + zi), [zr, zi])


if __name__ == "__main__":
    unittest.main()
