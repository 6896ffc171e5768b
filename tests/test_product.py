import itertools
import unittest

from complexsingles.singles import product
from tests.reference import (
    EIGHT, FIVE, INFINITY, KINDS, LARGEST, MINUS_INFINITY, MINUS_LARGEST, MINUS_ONE, MINUS_ZERO,
    NO_NUMBER_ANSWER, NO_NUMBERS, ONE, THREE, TWO, ZERO,
    check_fours, mixed_fours, reference_product,
)

HUGE = 0x71800000  # 2 to the 100; its square is too large for a single
TINY = 0x0D800000  # 2 to the -100; its square falls below the smallest denormal
NONE = NO_NUMBER_ANSWER


class ProductTest(unittest.TestCase):
    def check(self, cases):
        check_fours(self, product, cases)

    def check_each_product(self, cases):
        """Asks for each (p, q, p q) as each of the four products.

        The zeros beside them are of such signs that they leave even a zero's sign as it is.
        """
        for p, q, answer in cases:
            with self.subTest(p=hex(p), q=hex(q)):
                self.assertEqual(product(p, ZERO, q, ZERO)[0], answer)
                self.assertEqual(product(MINUS_ZERO, p, ZERO, q)[0], answer ^ 0x80000000)
                self.assertEqual(product(p, MINUS_ZERO, ZERO, q)[1], answer)
                self.assertEqual(product(MINUS_ZERO, p, q, ZERO)[1], answer)

    def test_ordinary_numbers(self):
        self.check([
            ([ONE, TWO, THREE, FIVE], [0xC0E00000, 0x41300000]),  # -7 + 11 i
            ([ONE, 0xC0000000, THREE, FIVE], [0x41500000, MINUS_ONE]),  # 13 - i
            ([MINUS_ONE, TWO, THREE, FIVE], [0xC1500000, ONE]),  # -13 + i
            ([ONE, TWO, 0xC0400000, FIVE], [0xC1500000, MINUS_ONE]),
            ([ONE, TWO, THREE, 0xC0A00000], [0x41500000, ONE]),
            ([0xBFC00000, 0x3E800000, TWO, 0xC0800000], [0xC0000000, 0x40D00000]),  # -1.5 + 0.25 i by 2 - 4 i
            ([TWO, ZERO, THREE, FIVE], [0x40C00000, 0x41200000]),
            ([THREE, FIVE, EIGHT, ZERO], [0x41C00000, 0x42200000]),
            ([ZERO, ONE, ZERO, ONE], [MINUS_ONE, ZERO]),
            ([ZERO, ONE, ONE, ZERO], [ZERO, ONE]),
        ])

    def test_each_product_for_itself(self):
        self.check_each_product([
            (TWO, FIVE, 0x41200000),
            (0xC0000000, FIVE, 0xC1200000),
            (TWO, 0xC0A00000, 0xC1200000),
            (0xC0000000, 0xC0A00000, 0x41200000),
            (0x3DCCCCCD, 0x3DCCCCCD, 0x3C23D70B),  # 0.1 times 0.1, rounded
            (0x3EAAAAAB, THREE, ONE),  # a third times 3, rounded
        ])

    def test_far_apart(self):
        self.check([
            ([HUGE, ONE, ONE, TINY], [HUGE, TWO]),
            ([HUGE, TINY, TINY, HUGE], [ZERO, INFINITY]),
            ([ONE, TINY, ONE, TINY], [ONE, 0x0E000000]),
            ([LARGEST, 0x00000001, ONE, ONE], [LARGEST, LARGEST]),
        ])

    def test_each_product_is_rounded_ahead_of_the_sum(self):
        # At each of these a product that is not rounded, either one or both, gives another answer.
        self.check([
            ([0xCB63A63E, 0x4B2B1F4D, 0xCB27D5B7, 0x4B01F06B], [0x5679900E, 0xD763BCD6]),
            ([0xCB4D6C74, 0xCB0C2275, 0xCB296EE4, 0xCB669E4E], [0x551B7F70, 0x578AE6F6]),
            ([0xCB2B4BF3, 0x4B3F48B0, 0xCB6B55BB, 0xCB66B036], [0x57A4EB86, 0xD5ABDD18]),
        ])

    def test_equal_products_cancel(self):
        # Their roundings cancel too; an exact product against a rounded one would leave a rest.
        self.check([
            ([0x3DCCCCCD, 0x3DCCCCCD, 0x3DCCCCCD, 0x3DCCCCCD], [ZERO, 0x3CA3D70B]),
            ([0x3DCCCCCD, 0x3DCCCCCD, 0x3DCCCCCD, 0xBDCCCCCD], [0x3CA3D70B, ZERO]),
        ])

    def test_products_at_the_middle_of_two_singles(self):
        self.check_each_product([
            (0x45800800, 0x45800800, 0x4B801000),  # 4097 times 4097, 16785409: down
            (0x45800800, 0x45801800, 0x4B802002),  # 4097 times 4099, 16793603: up
            (0xC5800800, 0x45800800, 0xCB801000),
            (0xC5800800, 0x45801800, 0xCB802002),
        ])

    def test_sums_at_the_middle_of_two_singles(self):
        below, middle, above = 0x337FFFFF, 0x33800000, 0x33800001  # about 2 to the -24
        self.check([
            ([ONE, below, ONE, MINUS_ONE], [ONE, 0xBF7FFFFF]),
            ([ONE, middle, ONE, MINUS_ONE], [ONE, 0xBF7FFFFF]),
            ([ONE, above, ONE, MINUS_ONE], [0x3F800001, 0xBF7FFFFF]),
            ([0x3F800001, middle, ONE, MINUS_ONE], [0x3F800002, MINUS_ONE]),
            ([ONE, middle, ONE, ONE], [0x3F7FFFFF, ONE]),
            ([0x3F800001, below, ONE, ONE], [0x3F800001, 0x3F800001]),
            ([0x3F800001, middle, ONE, ONE], [ONE, 0x3F800002]),
        ])

    def test_rounding_carried_to_the_next_power_of_two(self):
        self.check([([0x3FFFFFFF, 0x33800000, ONE, ONE], [0x3FFFFFFE, TWO])])
        self.check_each_product([(0x3F800001, 0x3FFFFFFE, TWO), (0x3F7FFFFF, 0x3F800001, ONE)])

    def test_denormal_numbers(self):
        self.check_each_product([
            (0x00000003, TWO, 0x00000006),
            (0x00000003, 0xC0000000, 0x80000006),
            (0x007FFFFF, TWO, 0x00FFFFFE),
            (0x00000001, 0x4B000000, 0x00800000),  # up to the smallest normal number
            (0x00000001, LARGEST, 0x34FFFFFF),
            (0x00400000, 0x7E800000, 0x3F000000),
        ])
        self.check([([0x00000005, 0x00000003, TWO, ONE], [0x00000007, 0x0000000B])])

    def test_denormal_results(self):
        self.check_each_product([
            (0x00800000, 0x3F000000, 0x00400000),
            (0x00800001, 0x3F000000, 0x00400000),  # at the middle, down
            (0x00800003, 0x3F000000, 0x00400002),  # at the middle, up
            (0x00FFFFFF, 0x3F000000, 0x00800000),  # at the middle, up to the smallest normal number
            (0x20000000, 0x1F800000, 0x00400000),
        ])

    def test_below_the_smallest_denormal(self):
        self.check_each_product([
            (0x00000001, 0x3F000000, ZERO),  # at the middle, down to the even one
            (0x00000001, 0x3F000001, 0x00000001),
            (0x00000001, 0x3EFFFFFF, ZERO),
            (0x80000001, 0x3F000000, MINUS_ZERO),
            (0x80000001, 0x3F000001, 0x80000001),
            (0x00000003, 0x3F000000, 0x00000002),
            (0x00000001, 0x00000001, ZERO),
            (0x00000001, 0x80000001, MINUS_ZERO),
            (TINY, TINY, ZERO),
            (TINY, TINY ^ 0x80000000, MINUS_ZERO),
        ])

    def test_small_products_are_rounded_ahead_of_the_sum(self):
        # Two halves of the smallest denormal are nothing each.
        self.check([
            ([0x00000001, 0x00000001, 0x3F000000, 0xBF000000], [ZERO, ZERO]),
            ([0x00000001, 0x00000001, 0x3F000000, 0x3F000000], [ZERO, ZERO]),
        ])

    def test_too_large(self):
        self.check_each_product([
            (HUGE, HUGE, INFINITY),
            (HUGE, HUGE ^ 0x80000000, MINUS_INFINITY),
            (LARGEST, TWO, INFINITY),
            (LARGEST, LARGEST, INFINITY),
        ])
        # Each product is too large by itself, even where the exact sum is not.
        self.check([
            ([HUGE, HUGE, HUGE, HUGE], [NONE, INFINITY]),
            ([HUGE, HUGE, HUGE, HUGE ^ 0x80000000], [INFINITY, NONE]),
        ])

    def test_edge_of_too_large(self):
        self.check_each_product([
            (0x49842108, 0x75780000, INFINITY),  # 1082401 times 31 times 2 to the 103, just at the edge
            (0x4B000CA7, 0x73FFE6B4, LARGEST),
            (0x4B0005A8, 0x73FFF4B0, INFINITY),
            (0xCB000CA7, 0x73FFE6B4, MINUS_LARGEST),
            (0xC9842108, 0x75780000, MINUS_INFINITY),
        ])
        self.check([
            ([LARGEST, 0x72FFFFFF, ONE, MINUS_ONE], [LARGEST, MINUS_LARGEST]),
            ([LARGEST, 0x73000000, ONE, MINUS_ONE], [INFINITY, 0xFF7FFFFE]),
            ([LARGEST, 0x72FFFFFF, ONE, ONE], [LARGEST, LARGEST]),
            ([LARGEST, 0x73000000, ONE, ONE], [0x7F7FFFFE, INFINITY]),
        ])

    def test_zeros(self):
        self.check_each_product([
            (ZERO, ZERO, ZERO),
            (ZERO, MINUS_ZERO, MINUS_ZERO),
            (MINUS_ZERO, ZERO, MINUS_ZERO),
            (MINUS_ZERO, MINUS_ZERO, ZERO),
            (ZERO, THREE, ZERO),
            (MINUS_ZERO, THREE, MINUS_ZERO),
            (THREE, MINUS_ZERO, MINUS_ZERO),
            (MINUS_ZERO, 0xC0400000, ZERO),
            (ZERO, 0x80000001, MINUS_ZERO),
            (LARGEST, ZERO, ZERO),
        ])

    def test_signs_of_four_zeros(self):
        self.check([
            ([ZERO, ZERO, ZERO, ZERO], [ZERO, ZERO]),
            ([MINUS_ZERO, ZERO, ZERO, ZERO], [MINUS_ZERO, ZERO]),
            ([ZERO, MINUS_ZERO, ZERO, ZERO], [ZERO, ZERO]),
            ([ZERO, ZERO, MINUS_ZERO, ZERO], [MINUS_ZERO, ZERO]),
            ([ZERO, ZERO, ZERO, MINUS_ZERO], [ZERO, ZERO]),
            ([MINUS_ZERO, MINUS_ZERO, ZERO, ZERO], [ZERO, MINUS_ZERO]),
            ([ZERO, ZERO, MINUS_ZERO, MINUS_ZERO], [ZERO, MINUS_ZERO]),
            ([MINUS_ZERO, ZERO, ZERO, MINUS_ZERO], [ZERO, ZERO]),
            ([MINUS_ZERO, MINUS_ZERO, MINUS_ZERO, MINUS_ZERO], [ZERO, ZERO]),
        ])

    def test_infinities_that_need_no_mending(self):
        self.check([
            ([INFINITY, ONE, TWO, THREE], [INFINITY, INFINITY]),
            ([MINUS_INFINITY, ONE, TWO, THREE], [MINUS_INFINITY, MINUS_INFINITY]),
            ([ONE, INFINITY, TWO, THREE], [MINUS_INFINITY, INFINITY]),
            ([ONE, TWO, INFINITY, THREE], [INFINITY, INFINITY]),
            ([ONE, TWO, THREE, INFINITY], [MINUS_INFINITY, INFINITY]),
            ([ONE, TWO, THREE, MINUS_INFINITY], [INFINITY, MINUS_INFINITY]),
        ])

    def test_one_part_no_number_is_not_mended(self):
        # Mending the first four would answer an infinity in place of what is no number.
        self.check([
            ([INFINITY, INFINITY, TWO, ONE], [NONE, INFINITY]),
            ([INFINITY, MINUS_INFINITY, TWO, ONE], [INFINITY, NONE]),
            ([TWO, ONE, INFINITY, INFINITY], [NONE, INFINITY]),
            ([TWO, ONE, INFINITY, MINUS_INFINITY], [INFINITY, NONE]),
            ([INFINITY, ZERO, THREE, ZERO], [INFINITY, NONE]),
            ([INFINITY, ZERO, ZERO, INFINITY], [NONE, INFINITY]),
            ([INFINITY, INFINITY, INFINITY, INFINITY], [NONE, INFINITY]),
            ([HUGE, HUGE, HUGE, HUGE], [NONE, INFINITY]),
        ])

    def test_mended_with_a_part_of_a_infinite(self):
        for none in NO_NUMBERS:
            self.check([
                ([INFINITY, none, ONE, TWO], [INFINITY, INFINITY]),
                ([MINUS_INFINITY, none, ONE, TWO], [MINUS_INFINITY, MINUS_INFINITY]),
                ([none, INFINITY, ONE, TWO], [MINUS_INFINITY, INFINITY]),
                ([none, MINUS_INFINITY, ONE, TWO], [INFINITY, MINUS_INFINITY]),
                ([INFINITY, none, 0xC0400000, 0x00000001], [MINUS_INFINITY, INFINITY]),
                ([INFINITY, LARGEST, none, TWO], [NONE, INFINITY]),
                ([INFINITY, LARGEST, TWO, none], [INFINITY, NONE]),
                ([INFINITY, INFINITY, none, THREE], [MINUS_INFINITY, INFINITY]),
                ([INFINITY, INFINITY, THREE, none], [INFINITY, INFINITY]),
                ([INFINITY, none, none, THREE], [NONE, INFINITY]),
                ([INFINITY, none, none, none], [NONE, NONE]),
                ([INFINITY, none, ZERO, ZERO], [NONE, NONE]),
                ([INFINITY, none, THREE, ZERO], [INFINITY, NONE]),
            ])

    def test_mended_with_a_part_of_a_infinite_and_no_no_number(self):
        self.check([
            ([INFINITY, INFINITY, ZERO, ZERO], [NONE, NONE]),
            ([INFINITY, INFINITY, THREE, ZERO], [INFINITY, INFINITY]),
            ([INFINITY, INFINITY, MINUS_ZERO, THREE], [MINUS_INFINITY, INFINITY]),
            ([MINUS_INFINITY, INFINITY, THREE, MINUS_ZERO], [MINUS_INFINITY, INFINITY]),
        ])

    def test_mended_with_a_part_of_b_infinite(self):
        for none in NO_NUMBERS:
            self.check([
                ([ONE, TWO, INFINITY, none], [INFINITY, INFINITY]),
                ([ONE, TWO, MINUS_INFINITY, none], [MINUS_INFINITY, MINUS_INFINITY]),
                ([ONE, TWO, none, INFINITY], [MINUS_INFINITY, INFINITY]),
                ([ONE, TWO, none, MINUS_INFINITY], [INFINITY, MINUS_INFINITY]),
                ([none, ONE, INFINITY, INFINITY], [MINUS_INFINITY, INFINITY]),
                ([ONE, none, INFINITY, INFINITY], [INFINITY, INFINITY]),
                ([ONE, none, INFINITY, LARGEST], [INFINITY, NONE]),
                ([none, ONE, INFINITY, none], [NONE, INFINITY]),
                ([none, none, INFINITY, ONE], [NONE, NONE]),
                ([ZERO, ZERO, INFINITY, none], [NONE, NONE]),
            ])
        self.check([
            ([ZERO, THREE, INFINITY, INFINITY], [MINUS_INFINITY, INFINITY]),
            ([THREE, MINUS_ZERO, INFINITY, MINUS_INFINITY], [INFINITY, MINUS_INFINITY]),
        ])

    def test_mended_with_parts_of_a_and_of_b_infinite(self):
        # Were b left as it is behind the first step, x or y would be no number.
        for none in NO_NUMBERS:
            self.check([
                ([INFINITY, none, INFINITY, INFINITY], [INFINITY, INFINITY]),
                ([INFINITY, none, MINUS_INFINITY, INFINITY], [MINUS_INFINITY, INFINITY]),
                ([none, MINUS_INFINITY, INFINITY, INFINITY], [INFINITY, MINUS_INFINITY]),
                ([INFINITY, INFINITY, INFINITY, none], [INFINITY, INFINITY]),
                ([INFINITY, INFINITY, none, MINUS_INFINITY], [INFINITY, MINUS_INFINITY]),
                ([INFINITY, none, INFINITY, none], [INFINITY, NONE]),
                ([INFINITY, none, none, INFINITY], [NONE, INFINITY]),
                ([INFINITY, none, ONE, INFINITY], [NONE, INFINITY]),
            ])

    def test_mended_with_an_infinite_product_alone(self):
        for none in NO_NUMBERS:
            self.check([
                ([HUGE, none, HUGE, ONE], [INFINITY, INFINITY]),  # ar br
                ([none, HUGE, ONE, HUGE], [MINUS_INFINITY, INFINITY]),  # ai bi
                ([HUGE, none, ONE, HUGE], [INFINITY, INFINITY]),  # ar bi
                ([none, HUGE, HUGE, ONE], [MINUS_INFINITY, INFINITY]),  # ai br
                ([HUGE, ONE, HUGE, none], [INFINITY, INFINITY]),
                ([HUGE, ONE, none, HUGE], [MINUS_INFINITY, INFINITY]),
                ([HUGE, none, HUGE ^ 0x80000000, none], [MINUS_INFINITY, NONE]),
                ([none, HUGE, none, HUGE], [MINUS_INFINITY, NONE]),
                ([none, HUGE, HUGE, 0x00000001], [MINUS_INFINITY, INFINITY]),
                ([HUGE, none, HUGE, ZERO], [INFINITY, NONE]),
            ])

    def test_no_mending_without_infinities(self):
        for none in NO_NUMBERS:
            self.check([
                ([none, TWO, THREE, FIVE], [NONE, NONE]),
                ([ONE, none, THREE, FIVE], [NONE, NONE]),
                ([ONE, TWO, none, FIVE], [NONE, NONE]),
                ([ONE, TWO, THREE, none], [NONE, NONE]),
                ([none, none, none, none], [NONE, NONE]),
                ([none, LARGEST, ONE, 0x3F000000], [NONE, NONE]),
                ([none, ZERO, ZERO, ZERO], [NONE, NONE]),
            ])

    def test_kinds_against_floats(self):
        for four in itertools.product(KINDS, repeat=4):
            self.assertEqual(product(*four), reference_product(*four), [hex(bits) for bits in four])

    def test_mixed_numbers_against_floats(self):
        for four in mixed_fours(20000):
            self.assertEqual(product(*four), reference_product(*four), [hex(bits) for bits in four])


if __name__ == "__main__":
    unittest.main()
