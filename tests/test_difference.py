import unittest

from complexsingles.singles import difference
from tests.reference import (
    EIGHT, FIVE, INFINITY, LARGEST, MINUS_INFINITY, MINUS_LARGEST, MINUS_ONE, MINUS_ZERO,
    NO_NUMBER_ANSWER, NO_NUMBERS, ONE, THREE, TWO, ZERO,
    check_parts, many_singles, reference_difference,
)


class DifferenceTest(unittest.TestCase):
    def check(self, cases):
        check_parts(self, difference, TWO, cases)

    def test_ordinary_numbers(self):
        self.check([
            (THREE, TWO, ONE),
            (TWO, THREE, MINUS_ONE),
            (MINUS_ONE, TWO, 0xC0400000),
            (ONE, 0xC0000000, THREE),
            (MINUS_ONE, 0xC0000000, ONE),
            (0x3FC00000, 0x3E800000, 0x3FA00000),  # 1.5 - 0.25
            (0x3E99999A, 0x3DCCCCCD, 0x3E4CCCCE),  # 0.3 - 0.1, rounded
            (FIVE, ZERO, FIVE),
            (ZERO, FIVE, 0xC0A00000),
        ])

    def test_each_part_for_itself(self):
        self.assertEqual(difference(THREE, EIGHT, TWO, THREE), [ONE, FIVE])
        self.assertEqual(difference(TWO, FIVE, THREE, EIGHT), [MINUS_ONE, 0xC0400000])

    def test_far_apart(self):
        self.check([
            (0x7149F2CA, ONE, 0x7149F2CA),
            (ONE, 0x7149F2CA, 0xF149F2CA),
            (LARGEST, 0x00000001, LARGEST),
            (0x00000001, LARGEST, MINUS_LARGEST),
        ])

    def test_exact_results(self):
        self.check([
            (0x4B7FFFFF, MINUS_ONE, 0x4B800000),  # 16777215 + 1
            (0x4B800001, TWO, 0x4B800000),  # 16777218 - 2
            (ONE, 0x33800000, 0x3F7FFFFF),  # 1 - 2 to the -24
        ])

    def test_rounding_below_at_and_above_the_middle(self):
        self.check([
            (ONE, 0x32FFFFFF, ONE),
            (ONE, 0x33000000, ONE),
            (ONE, 0x33000001, 0x3F7FFFFF),
            (0x3F800001, 0x337FFFFF, 0x3F800001),
            (0x3F800001, 0x33800000, ONE),
            (0x3F800002, 0x33800000, 0x3F800002),
            (0x3F800002, 0x33800001, 0x3F800001),
            (0x33800000, 0x3F800001, MINUS_ONE),
            (0x4B800001, ONE, 0x4B800000),  # 16777217, between two singles
            (0x4B800002, ONE, 0x4B800002),  # 16777219
            (ONE, 0xB3800001, 0x3F800001),
        ])

    def test_rounding_carried_to_the_next_power_of_two(self):
        self.check([
            (0x3FFFFFFF, 0xB37FFFFF, 0x3FFFFFFF),
            (0x3FFFFFFF, 0xB3800000, TWO),
            (0xBFFFFFFF, 0x33800000, 0xC0000000),
        ])

    def test_lost_leading_bits(self):
        self.check([
            (0x3F800001, ONE, 0x34000000),
            (ONE, 0x3F800001, 0xB4000000),
            (TWO, 0x3FFFFFFF, 0x34000000),
            (0x4B800000, 0x4B7FFFFF, ONE),
            (LARGEST, 0x7F7FFFFE, 0x73800000),
        ])

    def test_denormal_numbers(self):
        self.check([
            (0x00000003, 0x00000002, 0x00000001),
            (0x00000002, 0x00000003, 0x80000001),
            (0x80000001, 0x00000002, 0x80000003),
            (ZERO, 0x00000001, 0x80000001),
            (MINUS_ZERO, 0x80000001, 0x00000001),
        ])

    def test_denormal_and_normal_number(self):
        self.check([
            (0x00800000, 0x00000001, 0x007FFFFF),
            (0x00000001, 0x00800000, 0x807FFFFF),
            (0x00FFFFFF, 0x80000001, 0x01000000),
            (0x01000001, 0x00000001, 0x01000000),
            (0x01000002, 0x00000001, 0x01000002),
        ])

    def test_normal_result_of_two_denormals(self):
        self.check([
            (0x007FFFFF, 0x80000001, 0x00800000),
            (0x80400000, 0x00400000, 0x80800000),
            (0x007FFFFF, 0x807FFFFF, 0x00FFFFFE),
        ])

    def test_denormal_result_of_two_normal_numbers(self):
        self.check([
            (0x00800001, 0x00800000, 0x00000001),
            (0x00800000, 0x00800001, 0x80000001),
            (0x01000000, 0x00FFFFFF, 0x00000001),
            (0x00C00000, 0x00800000, 0x00400000),
        ])

    def test_too_large(self):
        self.check([
            (LARGEST, MINUS_LARGEST, INFINITY),
            (MINUS_LARGEST, LARGEST, MINUS_INFINITY),
            (0x7F000000, 0xFF000000, INFINITY),
        ])

    def test_edge_of_too_large(self):
        self.check([
            (LARGEST, 0xF2FFFFFF, LARGEST),
            (LARGEST, 0xF3000000, INFINITY),
            (LARGEST, 0xF3000001, INFINITY),
            (MINUS_LARGEST, 0x72FFFFFF, MINUS_LARGEST),
            (MINUS_LARGEST, 0x73000000, MINUS_INFINITY),
            (0x7F7FFFFE, 0xF3800000, LARGEST),
        ])

    def test_infinities(self):
        for x in [ZERO, MINUS_ZERO, ONE, MINUS_ONE, 0x00000001, LARGEST, MINUS_LARGEST]:
            self.check([
                (INFINITY, x, INFINITY),
                (MINUS_INFINITY, x, MINUS_INFINITY),
                (x, INFINITY, MINUS_INFINITY),
                (x, MINUS_INFINITY, INFINITY),
            ])
        self.check([
            (INFINITY, MINUS_INFINITY, INFINITY),
            (MINUS_INFINITY, INFINITY, MINUS_INFINITY),
            (INFINITY, INFINITY, NO_NUMBER_ANSWER),
            (MINUS_INFINITY, MINUS_INFINITY, NO_NUMBER_ANSWER),
        ])

    def test_no_numbers(self):
        partners = [ZERO, MINUS_ZERO, ONE, 0x80000001, LARGEST, INFINITY, MINUS_INFINITY] + NO_NUMBERS
        for x in NO_NUMBERS:
            self.check([(x, y, NO_NUMBER_ANSWER) for y in partners])
            self.check([(y, x, NO_NUMBER_ANSWER) for y in partners])

    def test_no_number_as_each_of_the_four(self):
        for x in NO_NUMBERS:
            with self.subTest(x=hex(x)):
                self.assertEqual(difference(x, EIGHT, ONE, THREE), [NO_NUMBER_ANSWER, FIVE])
                self.assertEqual(difference(THREE, x, TWO, FIVE), [ONE, NO_NUMBER_ANSWER])
                self.assertEqual(difference(ONE, EIGHT, x, THREE), [NO_NUMBER_ANSWER, FIVE])
                self.assertEqual(difference(THREE, FIVE, TWO, x), [ONE, NO_NUMBER_ANSWER])
                self.assertEqual(difference(ONE, TWO, x, x), [NO_NUMBER_ANSWER, NO_NUMBER_ANSWER])

    def test_zeros(self):
        self.check([
            (ZERO, ZERO, ZERO),
            (ZERO, MINUS_ZERO, ZERO),
            (MINUS_ZERO, ZERO, MINUS_ZERO),
            (MINUS_ZERO, MINUS_ZERO, ZERO),
        ])

    def test_number_and_itself(self):
        numbers = [ONE, FIVE, 0x3DCCCCCD, LARGEST, 0x00800000, 0x007FFFFF, 0x00000001]
        self.check([(x, x, ZERO) for x in numbers])
        self.check([(x + 0x80000000, x + 0x80000000, ZERO) for x in numbers])

    def test_against_floats(self):
        singles = many_singles()
        for x in singles:
            answers = [difference(x, y, y, x) for y in singles]
            expected = [[reference_difference(x, y), reference_difference(y, x)] for y in singles]
            self.assertEqual(answers, expected, hex(x))


if __name__ == "__main__":
    unittest.main()
