import itertools
import math
import struct
import unittest

from complexsingles.forms import converted, double_form, single_form
from tests.reference import NO_NUMBERS, as_single, bits_of, number_of

FRACTIONS = [0, 1, 0x8000000000000, 0x5555555555555, 0xFFFFFFFFFFFFE, 0xFFFFFFFFFFFFF]
EXPONENTS = [0, 1, 2, 50, 500, 970, 1022, 1023, 1024, 1075, 1076, 1500, 2045, 2046]
INFINITY = 0x7FF0000000000000
SIGN = 0x8000000000000000
DOUBLES = [
    sign + (exponent << 52) + fraction for sign in (0, SIGN) for exponent in EXPONENTS for fraction in FRACTIONS
] + [INFINITY, INFINITY + SIGN, INFINITY + 1, INFINITY + SIGN + 1, 0x7FF8000000000000, 0xFFFFFFFFFFFFFFFF]


def double_of(bits):
    return struct.unpack("<d", struct.pack("<Q", bits))[0]


def double_bits(number):
    return None if math.isnan(number) else struct.unpack("<Q", struct.pack("<d", number))[0]


def float_by(x, y):
    """x by y, also by 0, which Python's floats refuse."""
    if y != 0:
        return x / y
    if x == 0 or math.isnan(x):
        return math.nan
    return math.copysign(math.inf, x) * math.copysign(1.0, y)


class DoublesTest(unittest.TestCase):
    def check(self, operation, expected):
        form = double_form()
        for x, y in itertools.product(DOUBLES, repeat=2):
            result = operation(form, x, y)
            told = None if form.is_no_number(result) else result
            self.assertEqual(told, double_bits(expected(double_of(x), double_of(y))), (hex(x), hex(y)))

    def test_plus(self):
        self.check(lambda form, x, y: form.plus(x, y), lambda x, y: x + y)

    def test_minus(self):
        self.check(lambda form, x, y: form.minus(x, y), lambda x, y: x - y)

    def test_times(self):
        self.check(lambda form, x, y: form.times(x, y), lambda x, y: x * y)

    def test_by(self):
        self.check(lambda form, x, y: form.by(x, y), float_by)


class ConvertedTest(unittest.TestCase):
    def test_double_to_single(self):
        for exponent in list(range(870, 902)) + [0, 1, 1022, 1023] + list(range(1145, 1153)) + [2046]:
            for fraction in [0, 1, 0xFFFFFFF, 0x10000000, 0x10000001, 0x30000000, 0xFFFFFEFFFFFFF, 0xFFFFFF0000000]:
                for sign in (0, SIGN):
                    x = sign + (exponent << 52) + fraction
                    single = converted(double_form(), x, single_form())
                    self.assertEqual(single, bits_of(double_of(x)), hex(x))

    def test_single_to_double_and_back(self):
        for x in [0, 1, 0x7FFFFF, 0x800000, 0x3F800001, 0x7F7FFFFF, 0x7F800000]:
            for bits in (x, x + 0x80000000):
                double = converted(single_form(), bits, double_form())
                self.assertEqual(double, double_bits(number_of(bits)))
                self.assertEqual(converted(double_form(), double, single_form()), bits)

    def test_no_number_keeps_its_sign(self):
        for none in NO_NUMBERS:
            double = converted(single_form(), none, double_form())
            self.assertTrue(double_form().is_no_number(double))
            self.assertEqual(double >> 63, none >> 31)
            self.assertTrue(single_form().is_no_number(converted(double_form(), double, single_form())))


class SinglesTest(unittest.TestCase):
    def test_one(self):
        self.assertEqual(single_form().one, 0x3F800000)
        self.assertEqual(double_form().one, 0x3FF0000000000000)

    def test_by(self):
        form = single_form()
        singles = [1, 3, 0x7FFFFF, 0x800000, 0x3F800000, 0x3FFFFFFF, 0xC0400000, 0x7F7FFFFF, 0x7F800000, 0]
        for x, y in itertools.product(singles, repeat=2):
            expected = float_by(number_of(x), number_of(y))
            result = form.by(x, y)
            if math.isnan(expected):
                self.assertTrue(form.is_no_number(result), (hex(x), hex(y)))
            else:
                self.assertEqual(result, bits_of(as_single(expected)), (hex(x), hex(y)))


if __name__ == "__main__":
    unittest.main()
