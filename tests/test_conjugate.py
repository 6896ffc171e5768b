import unittest

from complexsingles.singles import conjugate
from tests.reference import (
    FIVE, INFINITY, LARGEST, MINUS_INFINITY, MINUS_LARGEST, MINUS_ONE, MINUS_ZERO,
    NO_NUMBER_ANSWER, NO_NUMBERS, ONE, THREE, ZERO, many_singles,
)


class ConjugateTest(unittest.TestCase):
    def check(self, cases):
        for ar, ai, answer in cases:
            with self.subTest(ar=hex(ar), ai=hex(ai)):
                self.assertEqual(conjugate(ar, ai), answer)

    def test_ordinary_numbers(self):
        self.check([
            (THREE, FIVE, [THREE, 0xC0A00000]),
            (THREE, 0xC0A00000, [THREE, FIVE]),
            (MINUS_ONE, 0x3DCCCCCD, [MINUS_ONE, 0xBDCCCCCD]),
            (LARGEST, LARGEST, [LARGEST, MINUS_LARGEST]),
            (MINUS_LARGEST, MINUS_LARGEST, [MINUS_LARGEST, LARGEST]),
        ])

    def test_denormal_numbers(self):
        self.check([
            (0x00000001, 0x00000001, [0x00000001, 0x80000001]),
            (0x807FFFFF, 0x807FFFFF, [0x807FFFFF, 0x007FFFFF]),
            (ONE, 0x00000003, [ONE, 0x80000003]),
        ])

    def test_zeros(self):
        self.check([
            (ZERO, ZERO, [ZERO, MINUS_ZERO]),
            (ZERO, MINUS_ZERO, [ZERO, ZERO]),
            (MINUS_ZERO, ZERO, [MINUS_ZERO, MINUS_ZERO]),
            (MINUS_ZERO, MINUS_ZERO, [MINUS_ZERO, ZERO]),
        ])

    def test_infinities(self):
        self.check([
            (INFINITY, INFINITY, [INFINITY, MINUS_INFINITY]),
            (MINUS_INFINITY, MINUS_INFINITY, [MINUS_INFINITY, INFINITY]),
            (ONE, INFINITY, [ONE, MINUS_INFINITY]),
            (INFINITY, ONE, [INFINITY, MINUS_ONE]),
        ])

    def test_no_numbers(self):
        for none in NO_NUMBERS:
            self.check([
                (none, THREE, [NO_NUMBER_ANSWER, 0xC0400000]),
                (none, MINUS_ZERO, [NO_NUMBER_ANSWER, ZERO]),
                (none, INFINITY, [NO_NUMBER_ANSWER, MINUS_INFINITY]),
                (THREE, none, [THREE, NO_NUMBER_ANSWER]),
                (MINUS_ZERO, none, [MINUS_ZERO, NO_NUMBER_ANSWER]),
                (MINUS_INFINITY, none, [MINUS_INFINITY, NO_NUMBER_ANSWER]),
                (none, none, [NO_NUMBER_ANSWER, NO_NUMBER_ANSWER]),
            ])

    def test_twice_is_the_number_itself(self):
        numbers = [x for x in many_singles() if x % 0x80000000 <= INFINITY]
        for ar, ai in zip(numbers, reversed(numbers)):
            self.assertEqual(conjugate(*conjugate(ar, ai)), [ar, ai])


if __name__ == "__main__":
    unittest.main()
