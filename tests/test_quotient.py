import itertools
import unittest

from complexsingles.singles import quotient
from tests.reference import (
    FIVE, INFINITY, KINDS, LARGEST, MINUS_INFINITY, MINUS_LARGEST, MINUS_ONE, MINUS_ZERO,
    NO_NUMBER_ANSWER, NO_NUMBERS, ONE, THREE, TWO, ZERO,
    check_fours, mixed_fours, reference_quotient,
)

HALF = 0x3F000000
MINUS_HALF = 0xBF000000
NONE = NO_NUMBER_ANSWER


class QuotientTest(unittest.TestCase):
    def check(self, cases):
        check_fours(self, quotient, cases)

    def check_real_part(self, cases):
        """Asks for each (four, x), and for the same as the imaginary part, by a times i."""
        for (ar, ai, br, bi), answer in cases:
            with self.subTest(four=[hex(bits) for bits in (ar, ai, br, bi)]):
                self.assertEqual(quotient(ar, ai, br, bi)[0], answer)
                self.assertEqual(quotient(ai ^ 0x80000000, ar, br, bi)[1], answer)

    def test_ordinary_numbers(self):
        self.check([
            ([0xC0E00000, 0x41300000, THREE, FIVE], [ONE, TWO]),  # -7 + 11 i by 3 + 5 i
            ([0x41500000, MINUS_ONE, THREE, FIVE], [ONE, 0xC0000000]),
            ([0xC1500000, ONE, THREE, FIVE], [MINUS_ONE, TWO]),
            ([0xC1500000, MINUS_ONE, 0xC0400000, FIVE], [ONE, TWO]),
            ([0x41500000, ONE, THREE, 0xC0A00000], [ONE, TWO]),
            ([ONE, TWO, TWO, ZERO], [HALF, ONE]),
            ([ONE, TWO, ZERO, TWO], [ONE, MINUS_HALF]),
            ([ONE, ZERO, ZERO, ONE], [ZERO, MINUS_ONE]),
            ([ONE, TWO, THREE, FIVE], [0x3EC3C3C4, 0x3CF0F0F1]),  # 13/34 + i/34, rounded
            ([ONE, ZERO, THREE, ZERO], [0x3EAAAAAB, ZERO]),
        ])

    def test_far_apart(self):
        self.check([
            ([0x71800000, ONE, ONE, ZERO], [0x71800000, ONE]),
            ([0x71800000, 0x0D800000, 0x71800000, ZERO], [ONE, ZERO]),
            ([ONE, ONE, ONE, 0x0D800000], [ONE, ONE]),
            ([ONE, TWO, 0x71800000, 0x0D800000], [0x0D800000, 0x0E000000]),
        ])

    def test_squares_beyond_a_single(self):
        # In singles d would be infinite or 0 here.
        self.check([
            ([LARGEST, ZERO, LARGEST, ZERO], [ONE, ZERO]),
            ([LARGEST, LARGEST, LARGEST, LARGEST], [ONE, ZERO]),
            ([LARGEST, MINUS_LARGEST, LARGEST, LARGEST], [ZERO, MINUS_ONE]),
            ([0x00000001, ZERO, 0x00000001, ZERO], [ONE, ZERO]),
            ([0x00000003, 0x00000001, 0x00000001, 0x00000001], [TWO, MINUS_ONE]),
            ([ONE, ZERO, 0x00800000, ZERO], [0x7E800000, ZERO]),
        ])

    def test_rounding_to_a_double_ahead_of_a_single(self):
        # The quotient is so near the middle of two singles that as a double it is just there, and
        # goes to the even one: to the other side than if it was rounded once.
        self.check_real_part([
            ([0x4B54065E, 0x4B02F33F, 0x4B269E0D, 0x4B651327], 0x3F506BF2),
            ([0x4AE031B6, 0x4B09B83B, 0x4B400935, 0x4B330699], 0x3F2B855C),
            ([0x4A3E83E8, 0x4B3C3EC3, 0x4B400935, 0x4B330699], 0x3F1F229E),
        ])

    def test_rounding_of_d_counts(self):
        self.check_real_part([
            ([0x4B3C36A3, 0x48D7EE80, 0x4D77B103, 0x4B77BD89], 0x3D423434),
            ([0x4B2DE645, 0xCA919AC4, 0x4D31330D, 0x4B37BAC3], 0x3D736507),
            ([0x4B06DCF2, 0xCB303B8D, 0x4D109257, 0x4B2648A5], 0x3D574356),
        ])

    def test_rounding_of_the_sums_over_d_counts(self):
        self.check_real_part([
            ([0x4F0FEDD8, 0x4B263542, 0x4B091FF5, 0x4B10586B], 0x43001177),
            ([0x4F0EA8EF, 0x4B6375DA, 0x4B0592A7, 0x4B0EF3D3], 0x43004B41),
            ([0x4F061AB0, 0x4B72D0EE, 0x4B07A89F, 0x4B06343D], 0x4300CAD3),
        ])

    def test_results_at_the_middle_of_two_singles(self):
        # By 0.5 + 0.5 i the parts are ar + ai and ai - ar.
        self.check([
            ([ONE, 0x337FFFFF, HALF, HALF], [ONE, 0xBF7FFFFF]),
            ([ONE, 0x33800000, HALF, HALF], [ONE, 0xBF7FFFFF]),
            ([ONE, 0x33800001, HALF, HALF], [0x3F800001, 0xBF7FFFFF]),
            ([0x3F800001, 0x33800000, HALF, HALF], [0x3F800002, MINUS_ONE]),
            ([0x3FFFFFFF, 0x33800000, HALF, HALF], [TWO, 0xBFFFFFFE]),
            ([0x4B800000, ONE, HALF, HALF], [0x4B800000, 0xCB7FFFFF]),
            ([0x4B800001, ONE, HALF, HALF], [0x4B800002, 0xCB800000]),
        ])

    def test_denormal_numbers_and_results(self):
        self.check([
            ([0x00000006, 0x0000000A, TWO, ZERO], [0x00000003, 0x00000005]),
            ([0x00000005, 0x00000007, TWO, ZERO], [0x00000002, 0x00000004]),  # at the middle, to the even one
            ([0x00800001, 0x00800003, TWO, ZERO], [0x00400000, 0x00400002]),
            ([0x00FFFFFF, 0x80FFFFFF, TWO, ZERO], [0x00800000, 0x80800000]),
            ([0x00000003, 0x00000005, HALF, HALF], [0x00000008, 0x00000002]),
            ([0x00000001, ZERO, ZERO, 0x00000002], [ZERO, MINUS_HALF]),
            ([0x00000001, 0x80000001, 0x3E800000, ZERO], [0x00000004, 0x80000004]),
            ([ONE, ONE, LARGEST, ZERO], [0x00200000, 0x00200000]),
        ])

    def test_below_the_smallest_denormal(self):
        self.check([
            ([0x00000001, 0x80000001, TWO, ZERO], [ZERO, MINUS_ZERO]),  # at the middle, to the even one
            ([0x00000001, 0x80000001, 0x3FFFFFFF, ZERO], [0x00000001, 0x80000001]),
            ([0x00000001, 0x80000001, 0x40000001, ZERO], [ZERO, MINUS_ZERO]),
            ([0x00000003, 0x80000003, TWO, ZERO], [0x00000002, 0x80000002]),
            ([0x00000001, 0x80000001, LARGEST, ZERO], [ZERO, MINUS_ZERO]),
        ])

    def test_too_large(self):
        self.check([
            ([LARGEST, MINUS_LARGEST, HALF, ZERO], [INFINITY, MINUS_INFINITY]),
            ([LARGEST, MINUS_LARGEST, 0x00000001, ZERO], [INFINITY, MINUS_INFINITY]),
            ([ONE, ZERO, 0x00000001, ZERO], [INFINITY, ZERO]),
            ([LARGEST, LARGEST, 0x3F800001, ZERO], [0x7F7FFFFD, 0x7F7FFFFD]),
            ([LARGEST, LARGEST, 0x3F7FFFFF, ZERO], [INFINITY, INFINITY]),
        ])

    def test_edge_of_too_large(self):
        self.check([
            ([LARGEST, 0x72FFFFFF, HALF, HALF], [LARGEST, MINUS_LARGEST]),
            ([LARGEST, 0x73000000, HALF, HALF], [INFINITY, 0xFF7FFFFE]),
            ([0x72FFFFFF, MINUS_LARGEST, HALF, HALF], [MINUS_LARGEST, MINUS_LARGEST]),
            ([0xF3000000, MINUS_LARGEST, HALF, HALF], [MINUS_INFINITY, 0xFF7FFFFE]),
            ([0xF3000000, LARGEST, HALF, HALF], [0x7F7FFFFE, INFINITY]),
            ([0xF2FFFFFF, LARGEST, HALF, HALF], [LARGEST, LARGEST]),
        ])

    def test_zero_results(self):
        self.check([
            ([ZERO, ZERO, ONE, ONE], [ZERO, ZERO]),
            ([MINUS_ZERO, ZERO, ONE, ONE], [ZERO, ZERO]),
            ([MINUS_ZERO, MINUS_ZERO, ONE, ONE], [MINUS_ZERO, ZERO]),
            ([ZERO, MINUS_ZERO, ONE, ONE], [ZERO, MINUS_ZERO]),
            ([MINUS_ZERO, MINUS_ZERO, ONE, MINUS_ONE], [ZERO, MINUS_ZERO]),
            ([MINUS_ZERO, MINUS_ZERO, MINUS_ONE, ONE], [ZERO, ZERO]),
            ([ONE, ONE, ONE, ONE], [ONE, ZERO]),
            ([ONE, MINUS_ONE, ONE, ONE], [ZERO, MINUS_ONE]),
            ([TWO, MINUS_ZERO, ONE, ZERO], [TWO, MINUS_ZERO]),
            ([TWO, ZERO, ONE, MINUS_ZERO], [TWO, ZERO]),
            ([MINUS_ZERO, TWO, ONE, MINUS_ZERO], [MINUS_ZERO, TWO]),
        ])

    def test_by_zero(self):
        self.check([
            ([ONE, TWO, ZERO, ZERO], [INFINITY, INFINITY]),
            ([ONE, TWO, ZERO, MINUS_ZERO], [INFINITY, INFINITY]),
            ([ONE, TWO, MINUS_ZERO, ZERO], [MINUS_INFINITY, MINUS_INFINITY]),
            ([ONE, TWO, MINUS_ZERO, MINUS_ZERO], [MINUS_INFINITY, MINUS_INFINITY]),
            ([MINUS_ONE, 0x00000001, ZERO, ZERO], [MINUS_INFINITY, INFINITY]),
            ([MINUS_ONE, 0x80000001, MINUS_ZERO, ZERO], [INFINITY, INFINITY]),
            ([ONE, ZERO, ZERO, ZERO], [INFINITY, NONE]),
            ([ZERO, ONE, MINUS_ZERO, ZERO], [NONE, MINUS_INFINITY]),
            ([ZERO, ZERO, ZERO, ZERO], [NONE, NONE]),
            ([MINUS_ZERO, ZERO, ZERO, MINUS_ZERO], [NONE, NONE]),
            ([INFINITY, ONE, ZERO, ZERO], [INFINITY, INFINITY]),
            ([MINUS_INFINITY, INFINITY, ZERO, ZERO], [MINUS_INFINITY, INFINITY]),
            ([INFINITY, ZERO, MINUS_ZERO, ZERO], [MINUS_INFINITY, NONE]),
        ])

    def test_no_numbers_by_zero(self):
        for none in NO_NUMBERS:
            self.check([
                ([none, ONE, ZERO, ZERO], [NONE, INFINITY]),
                ([MINUS_ONE, none, ZERO, ZERO], [MINUS_INFINITY, NONE]),
                ([INFINITY, none, MINUS_ZERO, ZERO], [MINUS_INFINITY, NONE]),
                ([none, MINUS_INFINITY, ZERO, ZERO], [NONE, MINUS_INFINITY]),
                ([none, ZERO, ZERO, ZERO], [NONE, NONE]),
                ([none, none, ZERO, ZERO], [NONE, NONE]),
                ([none, none, MINUS_ZERO, MINUS_ZERO], [NONE, NONE]),
            ])

    def test_infinities_that_need_no_mending(self):
        self.check([
            ([INFINITY, ONE, TWO, THREE], [INFINITY, MINUS_INFINITY]),
            ([MINUS_INFINITY, ONE, TWO, THREE], [MINUS_INFINITY, INFINITY]),
            ([ONE, INFINITY, TWO, THREE], [INFINITY, INFINITY]),
            ([ONE, INFINITY, TWO, 0xC0400000], [MINUS_INFINITY, INFINITY]),
        ])

    def test_one_part_no_number_is_not_mended(self):
        # Mending would answer an infinity in place of what is no number.
        self.check([
            ([INFINITY, INFINITY, TWO, ONE], [INFINITY, NONE]),
            ([INFINITY, MINUS_INFINITY, TWO, ONE], [NONE, MINUS_INFINITY]),
            ([MINUS_INFINITY, INFINITY, TWO, ONE], [NONE, INFINITY]),
            ([MINUS_INFINITY, MINUS_INFINITY, TWO, ONE], [MINUS_INFINITY, NONE]),
        ])

    def test_mended_with_a_part_of_a_infinite(self):
        for none in NO_NUMBERS:
            self.check([
                ([INFINITY, none, ONE, TWO], [INFINITY, MINUS_INFINITY]),
                ([MINUS_INFINITY, none, ONE, TWO], [MINUS_INFINITY, INFINITY]),
                ([none, INFINITY, ONE, TWO], [INFINITY, INFINITY]),
                ([none, MINUS_INFINITY, ONE, TWO], [MINUS_INFINITY, MINUS_INFINITY]),
                ([INFINITY, none, 0x80000001, LARGEST], [MINUS_INFINITY, MINUS_INFINITY]),
                ([INFINITY, none, THREE, ZERO], [INFINITY, NONE]),
                ([none, INFINITY, ZERO, THREE], [INFINITY, NONE]),
            ])
        self.check([
            ([INFINITY, INFINITY, ONE, ZERO], [INFINITY, INFINITY]),
            ([INFINITY, INFINITY, ZERO, ONE], [INFINITY, MINUS_INFINITY]),
            ([MINUS_INFINITY, INFINITY, MINUS_ZERO, 0xC0400000], [MINUS_INFINITY, MINUS_INFINITY]),
            ([INFINITY, LARGEST, ZERO, ONE], [NONE, MINUS_INFINITY]),
        ])

    def test_infinite_part_of_a_and_zero_part_of_b(self):
        # Only where both are no numbers is it mended; here one is not.
        self.check([
            ([INFINITY, ONE, ONE, ZERO], [INFINITY, NONE]),
            ([ONE, INFINITY, ONE, ZERO], [NONE, INFINITY]),
        ])

    def test_mended_with_a_part_of_b_infinite(self):
        self.check([
            ([ONE, TWO, INFINITY, THREE], [ZERO, ZERO]),
            ([MINUS_ONE, 0xC0000000, INFINITY, THREE], [MINUS_ZERO, MINUS_ZERO]),
            ([ONE, TWO, MINUS_INFINITY, THREE], [MINUS_ZERO, MINUS_ZERO]),
            ([ONE, TWO, THREE, INFINITY], [ZERO, MINUS_ZERO]),
            ([ONE, TWO, THREE, MINUS_INFINITY], [MINUS_ZERO, ZERO]),
            ([ONE, TWO, INFINITY, INFINITY], [ZERO, ZERO]),
            ([TWO, ONE, INFINITY, INFINITY], [ZERO, MINUS_ZERO]),
            ([ONE, TWO, INFINITY, MINUS_INFINITY], [MINUS_ZERO, ZERO]),
            ([ZERO, ZERO, INFINITY, ONE], [ZERO, ZERO]),
            ([MINUS_ZERO, MINUS_ZERO, INFINITY, ONE], [MINUS_ZERO, ZERO]),
            ([MINUS_ZERO, MINUS_ZERO, INFINITY, MINUS_ONE], [ZERO, MINUS_ZERO]),
            ([0x00000001, 0x80000001, INFINITY, ONE], [ZERO, MINUS_ZERO]),
        ])

    def test_mended_in_doubles(self):
        # In singles these sums would be infinite, and 0 times them no number.
        self.check([
            ([LARGEST, LARGEST, INFINITY, INFINITY], [ZERO, ZERO]),
            ([LARGEST, MINUS_LARGEST, INFINITY, INFINITY], [ZERO, MINUS_ZERO]),
            ([LARGEST, LARGEST, MINUS_INFINITY, MINUS_INFINITY], [MINUS_ZERO, ZERO]),
            ([MINUS_LARGEST, LARGEST, INFINITY, MINUS_INFINITY], [MINUS_ZERO, ZERO]),
        ])

    def test_mended_with_a_part_of_b_infinite_and_one_no_number(self):
        for none in NO_NUMBERS:
            self.check([
                ([ONE, TWO, INFINITY, none], [ZERO, ZERO]),
                ([ONE, TWO, MINUS_INFINITY, none], [MINUS_ZERO, MINUS_ZERO]),
                ([ONE, TWO, none, INFINITY], [ZERO, MINUS_ZERO]),
                ([ONE, TWO, none, MINUS_INFINITY], [MINUS_ZERO, ZERO]),
            ])

    def test_sign_of_no_number_counts_in_mending(self):
        for none in NO_NUMBERS:
            signed_zero = none & 0x80000000
            self.check([
                ([ONE, MINUS_ZERO, none, INFINITY], [signed_zero, MINUS_ZERO]),
                ([MINUS_ZERO, ONE, INFINITY, none], [signed_zero, ZERO]),
            ])

    def test_not_mended(self):
        for none in NO_NUMBERS:
            self.check([
                ([none, TWO, THREE, FIVE], [NONE, NONE]),
                ([ONE, none, THREE, FIVE], [NONE, NONE]),
                ([ONE, TWO, none, FIVE], [NONE, NONE]),
                ([ONE, TWO, THREE, none], [NONE, NONE]),
                ([none, none, none, none], [NONE, NONE]),
                ([INFINITY, none, none, ONE], [NONE, NONE]),
                ([INFINITY, ONE, ONE, none], [NONE, NONE]),
                ([none, ONE, INFINITY, ONE], [NONE, NONE]),
                ([ONE, none, none, INFINITY], [NONE, NONE]),
                ([INFINITY, none, INFINITY, none], [NONE, NONE]),
                ([ONE, TWO, none, ZERO], [NONE, NONE]),
            ])
        self.check([
            ([INFINITY, ONE, INFINITY, ONE], [NONE, NONE]),
            ([INFINITY, INFINITY, INFINITY, INFINITY], [NONE, NONE]),
            ([ONE, MINUS_INFINITY, INFINITY, ZERO], [NONE, NONE]),
        ])

    def test_kinds_against_floats(self):
        for four in itertools.product(KINDS, repeat=4):
            self.assertEqual(quotient(*four), reference_quotient(*four), [hex(bits) for bits in four])

    def test_mixed_numbers_against_floats(self):
        for four in mixed_fours(20000):
            self.assertEqual(quotient(*four), reference_quotient(*four), [hex(bits) for bits in four])


if __name__ == "__main__":
    unittest.main()
