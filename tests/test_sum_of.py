import unittest

from complexsingles.singles import sum_of
from tests.reference import (
    EIGHT, FIVE, INFINITY, LARGEST, MINUS_INFINITY, MINUS_LARGEST, MINUS_ONE, MINUS_ZERO,
    NO_NUMBER_ANSWER, NO_NUMBERS, ONE, THREE, TWO, ZERO,
    check_parts, many_singles, reference_sum,
)


class SumOfTest(unittest.TestCase):
    def check(self, cases):
        """A sum is the same in either order, so each case is asked in both."""
        check_parts(self, sum_of, EIGHT, cases)
        check_parts(self, sum_of, EIGHT, [(y, x, answer) for x, y, answer in cases])

    def test_ordinary_numbers(self):
        self.check([
            (ONE, TWO, THREE),
            (MINUS_ONE, 0xC0000000, 0xC0400000),
            (0x3FC00000, 0xBE800000, 0x3FA00000),  # 1.5 - 0.25
            (0x42C80000, 0xC3480000, 0xC2C80000),  # 100 - 200
            (0x3DCCCCCD, 0x3E4CCCCD, 0x3E99999A),  # 0.1 + 0.2, rounded
            (FIVE, ZERO, FIVE),
            (0xC0A00000, MINUS_ZERO, 0xC0A00000),
        ])

    def test_each_part_for_itself(self):
        self.assertEqual(sum_of(ONE, MINUS_ONE, TWO, 0xC0000000), [THREE, 0xC0400000])
        self.assertEqual(sum_of(ONE, FIVE, ZERO, THREE), [ONE, EIGHT])

    def test_far_apart(self):
        self.check([
            (0x7149F2CA, ONE, 0x7149F2CA),
            (0x7149F2CA, MINUS_ONE, 0x7149F2CA),
            (LARGEST, 0x00000001, LARGEST),
            (ONE, 0x80000001, ONE),
            (0xF149F2CA, 0x0DA24260, 0xF149F2CA),
        ])

    def test_exact_results(self):
        self.check([
            (0x4B7FFFFF, ONE, 0x4B800000),  # 16777215 + 1
            (0x4B800000, TWO, 0x4B800001),  # 16777216 + 2
            (ONE, 0x34000000, 0x3F800001),  # 1 + 2 to the -23
        ])

    def test_rounding_below_at_and_above_the_middle(self):
        self.check([
            (ONE, 0x337FFFFF, ONE),
            (ONE, 0x33800000, ONE),
            (ONE, 0x33800001, 0x3F800001),
            (0x3F800001, 0x337FFFFF, 0x3F800001),
            (0x3F800001, 0x33800000, 0x3F800002),
            (0x3F800001, 0x33800001, 0x3F800002),
            (0xBF800001, 0xB3800000, 0xBF800002),
            (0x4B800000, ONE, 0x4B800000),  # 16777217, between two singles
            (0x4B800001, ONE, 0x4B800002),  # 16777219
            (0x4B800000, 0x3FC00000, 0x4B800001),
        ])

    def test_rounding_below_a_power_of_two(self):
        self.check([
            (ONE, 0xB2FFFFFF, ONE),
            (ONE, 0xB3000000, ONE),
            (ONE, 0xB3000001, 0x3F7FFFFF),
            (ONE, 0xB3800000, 0x3F7FFFFF),
        ])

    def test_rounding_carried_to_the_next_power_of_two(self):
        self.check([
            (0x3FFFFFFF, 0x337FFFFF, 0x3FFFFFFF),
            (0x3FFFFFFF, 0x33800000, TWO),
            (0xBFFFFFFF, 0xB3800000, 0xC0000000),
            (0x4B7FFFFF, 0x3F000000, 0x4B800000),
        ])

    def test_lost_leading_bits(self):
        self.check([
            (0x3F800001, MINUS_ONE, 0x34000000),
            (TWO, 0xBFFFFFFF, 0x34000000),
            (0x4B800000, 0xCB7FFFFF, ONE),
            (0xCB800000, 0x4B7FFFFF, MINUS_ONE),
            (0x7F7FFFFF, 0xFF7FFFFE, 0x73800000),
        ])

    def test_denormal_numbers(self):
        self.check([
            (0x00000001, 0x00000002, 0x00000003),
            (0x80000001, 0x80000002, 0x80000003),
            (0x00000005, 0x80000007, 0x80000002),
            (0x00000001, ZERO, 0x00000001),
            (0x00000001, MINUS_ZERO, 0x00000001),
            (0x007FFFFF, 0x80000001, 0x007FFFFE),
        ])

    def test_denormal_and_normal_number(self):
        self.check([
            (0x00800000, 0x00000001, 0x00800001),
            (0x00FFFFFF, 0x00000001, 0x01000000),
            (0x01000000, 0x00000001, 0x01000000),
            (0x01000001, 0x00000001, 0x01000002),
            (0x01000000, 0x00000003, 0x01000002),
            (0x01000000, 0x80000001, 0x00FFFFFF),
        ])

    def test_normal_result_of_two_denormals(self):
        self.check([
            (0x007FFFFF, 0x00000001, 0x00800000),
            (0x007FFFFF, 0x007FFFFF, 0x00FFFFFE),
            (0x80400000, 0x80400000, 0x80800000),
        ])

    def test_denormal_result_of_two_normal_numbers(self):
        self.check([
            (0x00800001, 0x80800000, 0x00000001),
            (0x80800001, 0x00800000, 0x80000001),
            (0x01000000, 0x80FFFFFF, 0x00000001),
            (0x00C00000, 0x80800000, 0x00400000),
            (0x01000000, 0x80800001, 0x007FFFFF),
        ])

    def test_too_large(self):
        self.check([
            (LARGEST, LARGEST, INFINITY),
            (MINUS_LARGEST, MINUS_LARGEST, MINUS_INFINITY),
            (0x7F000000, 0x7F000000, INFINITY),
            (0xFF000000, 0xFF000000, MINUS_INFINITY),
        ])

    def test_edge_of_too_large(self):
        self.check([
            (LARGEST, 0x72FFFFFF, LARGEST),
            (LARGEST, 0x73000000, INFINITY),
            (LARGEST, 0x73000001, INFINITY),
            (MINUS_LARGEST, 0xF2FFFFFF, MINUS_LARGEST),
            (MINUS_LARGEST, 0xF3000000, MINUS_INFINITY),
            (0x7F7FFFFE, 0x73800000, LARGEST),
            (0x7F7FFFFE, 0x73000000, 0x7F7FFFFE),
            (0x7EFFFFFF, 0x7F000000, INFINITY),
            (0x7EFFFFFE, 0x7F000000, LARGEST),
        ])

    def test_infinities(self):
        finite = [ZERO, MINUS_ZERO, ONE, MINUS_ONE, 0x00000001, LARGEST, MINUS_LARGEST]
        self.check([(INFINITY, x, INFINITY) for x in finite])
        self.check([(MINUS_INFINITY, x, MINUS_INFINITY) for x in finite])
        self.check([
            (INFINITY, INFINITY, INFINITY),
            (MINUS_INFINITY, MINUS_INFINITY, MINUS_INFINITY),
            (INFINITY, MINUS_INFINITY, NO_NUMBER_ANSWER),
        ])

    def test_no_numbers(self):
        partners = [ZERO, MINUS_ZERO, ONE, 0x80000001, LARGEST, INFINITY, MINUS_INFINITY] + NO_NUMBERS
        for x in NO_NUMBERS:
            self.check([(x, y, NO_NUMBER_ANSWER) for y in partners])

    def test_no_number_as_each_of_the_four(self):
        for x in NO_NUMBERS:
            with self.subTest(x=hex(x)):
                self.assertEqual(sum_of(x, FIVE, ONE, THREE), [NO_NUMBER_ANSWER, EIGHT])
                self.assertEqual(sum_of(ONE, x, TWO, FIVE), [THREE, NO_NUMBER_ANSWER])
                self.assertEqual(sum_of(ONE, FIVE, x, THREE), [NO_NUMBER_ANSWER, EIGHT])
                self.assertEqual(sum_of(ONE, FIVE, TWO, x), [THREE, NO_NUMBER_ANSWER])
                self.assertEqual(sum_of(x, x, ONE, TWO), [NO_NUMBER_ANSWER, NO_NUMBER_ANSWER])

    def test_zeros(self):
        self.check([
            (ZERO, ZERO, ZERO),
            (ZERO, MINUS_ZERO, ZERO),
            (MINUS_ZERO, MINUS_ZERO, MINUS_ZERO),
        ])

    def test_number_and_its_opposite(self):
        numbers = [ONE, FIVE, 0x3DCCCCCD, LARGEST, 0x00800000, 0x007FFFFF, 0x00000001]
        self.check([(x, x + 0x80000000, ZERO) for x in numbers])

    def test_against_floats(self):
        singles = many_singles()
        for x in singles:
            answers = [sum_of(x, y, y, x) for y in singles]
            # The imaginary part is asked the other way round.
            self.assertEqual(answers, [[reference_sum(x, y), reference_sum(y, x)] for y in singles], hex(x))


if __name__ == "__main__":
    unittest.main()
