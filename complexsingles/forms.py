"""Binary numbers (IEEE 754) of one form or another, told by their bits; each operation is rounded by itself."""


def single_form():
    """The form of singles, binary32."""
    return Form(8, 23)


def double_form():
    """The form of doubles, binary64."""
    return Form(11, 52)


def converted(source, x, target):
    """The number x of the form source in the form target, rounded if it doesn't fit; the sign always stays."""
    if source.is_no_number(x):
        magnitude = target.some_no_number
    elif source.is_infinite(x):
        magnitude = target.infinity
    else:
        magnitude = target.nearest(abs(source.units_of(x)) * target.units_of_one, source.units_of_one)
    return target.signed(magnitude, source.is_negative(x))


class Form:
    """How many bits of a number hold its exponent, and how many its fraction; and how such numbers reckon."""

    def __init__(self, exponent_bits, fraction_bits):
        self.fraction_bits = fraction_bits
        self.leading_bit = 1 << fraction_bits
        self.sign_bit = 1 << (exponent_bits + fraction_bits)
        self.infinity = self.sign_bit - self.leading_bit
        self.some_no_number = self.sign_bit - 1
        bias = (1 << (exponent_bits - 1)) - 1
        self.one = bias << fraction_bits
        # The smallest denormal is the unit in which every finite number is a whole one.
        self.units_of_one = 1 << (bias - 1 + fraction_bits)

    def magnitude(self, x):
        """The bits without the sign's."""
        return x % self.sign_bit

    def is_negative(self, x):
        """Whether the sign's bit is set, also of a zero and of what is no number."""
        return x >= self.sign_bit

    def is_no_number(self, x):
        """Whether it is a NaN."""
        return self.magnitude(x) > self.infinity

    def is_infinite(self, x):
        """Whether it is an infinity of either sign."""
        return self.magnitude(x) == self.infinity

    def is_finite(self, x):
        """Whether it is neither an infinity nor a NaN."""
        return self.magnitude(x) < self.infinity

    def is_zero(self, x):
        """Whether it is a zero of either sign."""
        return self.magnitude(x) == 0

    def opposite(self, x):
        """The same with the other sign."""
        return x ^ self.sign_bit

    def signed(self, magnitude, negative):
        """The number with these bits and this sign."""
        return magnitude + self.sign_bit if negative else magnitude

    def plus(self, x, y):
        """x + y, rounded."""
        if self.is_no_number(x) or self.is_no_number(y):
            return self.some_no_number
        if self.is_infinite(x):
            return self.some_no_number if y == self.opposite(x) else x
        if self.is_infinite(y):
            return y
        total = self.units_of(x) + self.units_of(y)
        if total == 0:
            # Numbers that cancel leave a positive zero; only two negative zeros give a negative one.
            return self.signed(0, self.is_negative(x) and self.is_negative(y))
        return self.signed(self.nearest(abs(total), 1), total < 0)

    def minus(self, x, y):
        """x - y, rounded."""
        return self.plus(x, self.opposite(y))

    def times(self, x, y):
        """x y, rounded."""
        if self.is_no_number(x) or self.is_no_number(y):
            return self.some_no_number
        negative = self.is_negative(x) != self.is_negative(y)
        if self.is_infinite(x) or self.is_infinite(y):
            if self.is_zero(x) or self.is_zero(y):
                return self.some_no_number
            return self.signed(self.infinity, negative)
        squared_units = abs(self.units_of(x) * self.units_of(y))
        return self.signed(self.nearest(squared_units, self.units_of_one), negative)

    def by(self, x, y):
        """x by y, rounded."""
        if self.is_no_number(x) or self.is_no_number(y):
            return self.some_no_number
        if (self.is_infinite(x) and self.is_infinite(y)) or (self.is_zero(x) and self.is_zero(y)):
            return self.some_no_number
        negative = self.is_negative(x) != self.is_negative(y)
        if self.is_infinite(x) or self.is_zero(y):
            return self.signed(self.infinity, negative)
        if self.is_infinite(y):
            return self.signed(0, negative)
        dividend = abs(self.units_of(x)) * self.units_of_one
        return self.signed(self.nearest(dividend, abs(self.units_of(y))), negative)

    def units_of(self, x):
        """How many units a finite number is; in them a sum is exact before it is rounded."""
        exponent = self.magnitude(x) >> self.fraction_bits
        units = x % self.leading_bit
        if exponent > 0:
            # A denormal's step is that of the smallest exponent above it, hence one less.
            units = (self.leading_bit + units) << (exponent - 1)
        return -units if self.is_negative(x) else units

    def nearest(self, dividend, divisor):
        """The number nearest to dividend by divisor units, neither below 0; the even one of two."""
        surplus = max(0, (dividend // divisor).bit_length() - self.fraction_bits - 1)
        step = divisor << surplus
        kept = dividend // step
        twice_rest = 2 * (dividend % step)
        if twice_rest > step or (twice_rest == step and kept % 2 == 1):
            kept += 1
        # Adding lets the leading bit, and a carry out of rounding, raise the exponent by themselves.
        bits = (surplus << self.fraction_bits) + kept
        return min(bits, self.infinity)
