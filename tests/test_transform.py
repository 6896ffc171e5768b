import unittest

from complexsingles.singles import product, sum_of, transform
from tests.reference import (
    FIVE, INFINITY, LARGEST, MINUS_INFINITY, MINUS_LARGEST, MINUS_ONE, MINUS_ZERO,
    NO_NUMBER_ANSWER, NO_NUMBERS, ONE, THREE, TWO, ZERO,
    kinds_numbers, mixed_numbers, reference_product, reference_sum_of, reference_transform,
)

HUGE = 0x71800000  # 2 to the 100; its square is too large for a single
NONE = NO_NUMBER_ANSWER
HALF_STEP = 0x33800000  # 2 to the -24: half the step from 1 to the next single
TEN = 0x41200000
HUNDRED = 0x42C80000
UNIT = [ONE, ZERO]


class TransformTest(unittest.TestCase):
    def check(self, cases):
        for x, w, answer in cases:
            with self.subTest(x=[hex(bits) for bits in x], w=[hex(bits) for bits in w]):
                self.assertEqual(transform(len(x) // 2, x, w), [0] + answer)

    def check_against_floats(self, n, x, w):
        self.assertEqual(transform(n, x, w), reference_transform(n, x, w), (n, x, w))

    def test_one_number(self):
        self.check([
            ([ONE, TWO], [THREE, FIVE], [0xC0E00000, 0x41300000]),  # -7 + 11 i
            ([THREE, 0xC0A00000], UNIT, [THREE, 0xC0A00000]),
            ([0x00000003, ZERO], [TWO, ZERO], [0x00000006, ZERO]),
            ([INFINITY, NO_NUMBERS[0]], [ONE, TWO], [INFINITY, INFINITY]),
            ([NO_NUMBERS[0], ONE], [ONE, TWO], [NONE, NONE]),
        ])

    def test_first_product_is_taken_as_it_is(self):
        # Were it added to 0, its negative zeros would be lost.
        self.check([
            ([MINUS_ZERO, ZERO], UNIT, [MINUS_ZERO, ZERO]),
            ([ZERO, MINUS_ZERO], [ONE, MINUS_ZERO], [ZERO, MINUS_ZERO]),
            ([MINUS_ZERO, ZERO] * 2, UNIT * 2, [MINUS_ZERO, ZERO] * 2),
            ([MINUS_ZERO, ZERO] * 3, UNIT * 3, [MINUS_ZERO, ZERO] * 3),
        ])

    def test_two_numbers(self):
        self.check([
            ([FIVE, ONE, THREE, TWO], [ONE, ZERO, MINUS_ONE, ZERO], [0x41000000, THREE, TWO, MINUS_ONE]),
            ([ONE, ZERO, ZERO, ONE], [ONE, ZERO, ZERO, ONE], [ONE, ONE, ZERO, ZERO]),
        ])

    def test_places_of_three_numbers(self):
        # No roots of 1, so that each place of w shows: 1 + 2 + 3, 1 + 20 + 300, 1 + 200 + 30.
        self.check([
            (
                [ONE, ZERO, TWO, ZERO, THREE, ZERO],
                [ONE, ZERO, TEN, ZERO, HUNDRED, ZERO],
                [0x40C00000, ZERO, 0x43A08000, ZERO, 0x43670000, ZERO],
            ),
            (
                [ZERO, ONE, ZERO, TWO, ZERO, THREE],
                [ONE, ZERO, TEN, ZERO, HUNDRED, ZERO],
                [ZERO, 0x40C00000, ZERO, 0x43A08000, ZERO, 0x43670000],
            ),
        ])

    def test_four_numbers(self):
        # The powers of -i: 1 2 3 4 give 10, -2 + 2 i, -2, -2 - 2 i.
        self.check([(
            [ONE, ZERO, TWO, ZERO, THREE, ZERO, 0x40800000, ZERO],
            [ONE, ZERO, ZERO, MINUS_ONE, MINUS_ONE, ZERO, ZERO, ONE],
            [TEN, ZERO, 0xC0000000, TWO, 0xC0000000, ZERO, 0xC0000000, 0xC0000000],
        )])

    def test_every_place_of_w(self):
        # One number of x is 1 and all others are 0: it picks out of w the place (j k) mod n.
        for n in (1, 2, 3, 5, 6, 7, 12, 63, 64):
            w = [part for place in range(n) for part in (0x3F800000 + place, 0xC0000000 + place)]
            for j in sorted({0, 1 % n, 2 % n, n // 2, n - 1}):
                x = [ZERO, ZERO] * j + UNIT + [ZERO, ZERO] * (n - 1 - j)
                expected = [0]
                for k in range(n):
                    expected += [0x3F800000 + j * k % n, 0xC0000000 + j * k % n]
                self.assertEqual(transform(n, x, w), expected, (n, j))

    def test_sixty_four_numbers(self):
        self.check([
            (UNIT * 64, UNIT * 64, [0x42800000, ZERO] * 64),
            ([ZERO, ONE] * 64, UNIT * 64, [ZERO, 0x42800000] * 64),
        ])

    def test_refused(self):
        for n in (0, 65, 4294967295):
            self.assertEqual(transform(n, [], []), [-1])

    def test_one_after_another_from_the_first_on(self):
        self.check([
            ([ONE, ZERO, HALF_STEP, ZERO, HALF_STEP, ZERO], UNIT * 3, [ONE, ZERO] * 3),
            ([HALF_STEP, ZERO, HALF_STEP, ZERO, ONE, ZERO], UNIT * 3, [0x3F800001, ZERO] * 3),
            ([HALF_STEP, ZERO, ONE, ZERO, HALF_STEP, ZERO], UNIT * 3, [ONE, ZERO] * 3),
            ([ZERO, ONE, ZERO, HALF_STEP, ZERO, HALF_STEP], UNIT * 3, [ZERO, ONE] * 3),
            ([LARGEST, ZERO, LARGEST, ZERO, MINUS_LARGEST, ZERO], UNIT * 3, [INFINITY, ZERO] * 3),
            ([LARGEST, ZERO, MINUS_LARGEST, ZERO, LARGEST, ZERO], UNIT * 3, [LARGEST, ZERO] * 3),
            # By halves, as faster ways do it, the middle two would be added up first.
            ([ONE, ZERO, HALF_STEP, ZERO] * 2, UNIT * 4, [TWO, ZERO] * 4),
            ([ONE, ZERO] + [HALF_STEP, ZERO] * 3, UNIT * 4, [ONE, ZERO] * 4),
        ])

    def test_another_order_would_answer_otherwise(self):
        n, x, w = 12, mixed_numbers(12, 5), mixed_numbers(12, 6)
        backwards = [0]
        for k in range(n):
            total = reference_product(*x[-2:], *w[2 * ((n - 1) * k % n):][:2])
            for j in range(n - 2, -1, -1):
                total = reference_sum_of(total, reference_product(*x[2 * j:2 * j + 2], *w[2 * (j * k % n):][:2]))
            backwards += total
        self.assertNotEqual(backwards, reference_transform(n, x, w))
        self.check_against_floats(n, x, w)

    def test_product_is_rounded_ahead_of_the_sum(self):
        # (1 + step) squared is 1 + 2 steps and a rest that rounding takes away.
        self.check([
            ([0x3F800002, ZERO, 0xBF800001, ZERO], [ONE, ZERO, 0x3F800001, ZERO], [0x34000000, ZERO, ZERO, ZERO]),
            ([ZERO, 0x3F800002, ZERO, 0xBF800001], [ONE, ZERO, 0x3F800001, ZERO], [ZERO, 0x34000000, ZERO, ZERO]),
        ])

    def test_mended_products(self):
        for none in NO_NUMBERS:
            self.check([
                ([INFINITY, none, ONE, ONE], [ONE, TWO] * 2, [INFINITY, INFINITY] * 2),
                ([ONE, ONE, none, INFINITY], [ONE, TWO] * 2, [MINUS_INFINITY, INFINITY] * 2),
                ([ONE, TWO, ONE, TWO], [ONE, ONE, INFINITY, none], [0xC0000000, 0x40C00000, INFINITY, INFINITY]),
                ([none, HUGE, ONE, ONE], [HUGE, ONE] * 2, [MINUS_INFINITY, INFINITY] * 2),
                ([none, ONE, ONE, ONE], [ONE, ONE] * 2, [NONE, NONE] * 2),
                ([ONE, ONE, none, ONE], [ONE, ONE] * 2, [NONE, NONE] * 2),
                ([INFINITY, none, none, INFINITY], [ONE, TWO] * 2, [NONE, INFINITY] * 2),
            ])

    def test_sums_are_not_mended(self):
        self.check([
            ([INFINITY, ONE, MINUS_INFINITY, ONE], UNIT * 2, [NONE, NONE] * 2),
            ([INFINITY, INFINITY, MINUS_INFINITY, MINUS_INFINITY], [ONE, ONE] * 2, [NONE, NONE] * 2),
        ])

    def test_denormal_numbers(self):
        self.check([
            ([0x00000001, ZERO, 0x00000002, ZERO], UNIT * 2, [0x00000003, ZERO] * 2),
            ([0x00000001, ZERO, 0x00000001, ZERO], [0x3F000000, ZERO] * 2, [ZERO, ZERO] * 2),
            ([0x00800001, ZERO, 0x80800000, ZERO], UNIT * 2, [0x00000001, ZERO] * 2),
        ])

    def test_zeros(self):
        self.check([
            ([MINUS_ZERO, ZERO, ZERO, ZERO], UNIT * 2, [ZERO, ZERO] * 2),
            ([ONE, ZERO, MINUS_ONE, ZERO], UNIT * 2, [ZERO, ZERO] * 2),
            ([MINUS_ZERO, MINUS_ZERO, MINUS_ZERO, MINUS_ZERO], [ONE, MINUS_ZERO] * 2, [MINUS_ZERO, ZERO] * 2),
        ])

    def test_too_large(self):
        self.check([
            ([HUGE, ZERO], [HUGE, ZERO], [INFINITY, ZERO]),
            ([LARGEST, ZERO, 0x73000000, ZERO], UNIT * 2, [INFINITY, ZERO] * 2),
            ([LARGEST, ZERO, 0x72FFFFFF, ZERO], UNIT * 2, [LARGEST, ZERO] * 2),
        ])

    def test_by_products_and_sums(self):
        # The same as by hand, with the calls themselves.
        x, w = mixed_numbers(3, 8), mixed_numbers(3, 9)
        products = [product(*x[2 * j:2 * j + 2], *w[2 * (j * 2 % 3):][:2]) for j in range(3)]
        expected = sum_of(*sum_of(*products[0], *products[1]), *products[2])
        self.assertEqual(transform(3, x, w)[5:], expected)

    def test_ordinary_lists_against_floats(self):
        for n in list(range(1, 20)) + [31, 32, 63, 64]:
            self.check_against_floats(n, mixed_numbers(n, n), mixed_numbers(n, 100 + n))

    def test_lists_of_all_kinds_against_floats(self):
        for n in (1, 2, 3, 4, 5, 6, 64):
            for seed in range(40 if n < 64 else 2):
                self.check_against_floats(n, kinds_numbers(n, 100 * n + seed), kinds_numbers(n, 7000 + 100 * n + seed))


if __name__ == "__main__":
    unittest.main()
