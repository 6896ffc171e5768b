"""Complex numbers whose parts are singles (IEEE 754 binary32), each part told by its bits."""

NO_NUMBER_ANSWER = 4294967296

SIGN_BIT = 0x80000000
INFINITY = 0x7F800000
SOME_NO_NUMBER = 0x7FC00000

LEADING_BIT = 0x00800000
FRACTION_BITS = 23
SIGNIFICANT_BITS = 24


def sum_of(ar, ai, br, bi):
    """a + b, part by part."""
    return [answered(plus(ar, br)), answered(plus(ai, bi))]


def difference(ar, ai, br, bi):
    """a - b, part by part."""
    return [answered(minus(ar, br)), answered(minus(ai, bi))]


def answered(single):
    """A single as it is given back: what is no number loses its bits."""
    if is_no_number(single):
        return NO_NUMBER_ANSWER
    return single


def magnitude(single):
    """The bits without the sign's."""
    return single % SIGN_BIT


def is_negative(single):
    """Whether the sign's bit is set, also of a zero."""
    return single >= SIGN_BIT


def is_no_number(single):
    """Whether it is a NaN."""
    return magnitude(single) > INFINITY


def is_infinite(single):
    """Whether it is an infinity of either sign."""
    return magnitude(single) == INFINITY


def opposite(single):
    """The same with the other sign."""
    return single ^ SIGN_BIT


def plus(x, y):
    """x + y as a single, rounded."""
    if is_no_number(x) or is_no_number(y):
        return SOME_NO_NUMBER
    if is_infinite(x) and is_infinite(y) and x != y:
        return SOME_NO_NUMBER
    if is_infinite(x):
        return x
    if is_infinite(y):
        return y
    return finite_plus(x, y)


def minus(x, y):
    """x - y as a single, rounded."""
    return plus(x, opposite(y))


def finite_plus(x, y):
    """x + y of two finite singles."""
    total = units_of(x) + units_of(y)
    negative = total < 0
    if total == 0:
        # Numbers that cancel leave a positive zero; only two negative zeros give a negative one.
        negative = is_negative(x) and is_negative(y)
    bits = rounded(abs(total))
    return opposite(bits) if negative else bits


def units_of(single):
    """How many times the smallest denormal a finite single is.

    Every finite single is a whole number of these, so a sum of them is exact before it is rounded.
    """
    exponent = magnitude(single) >> FRACTION_BITS
    units = magnitude(single) % LEADING_BIT
    if exponent > 0:
        # A denormal's step is that of the smallest exponent above it, hence one less.
        units = (LEADING_BIT + units) << (exponent - 1)
    return -units if is_negative(single) else units


def rounded(units):
    """The single nearest to units (0 or more) of the smallest denormal, the even one of two."""
    surplus = max(0, units.bit_length() - SIGNIFICANT_BITS)
    step = 1 << surplus
    kept = units // step
    twice_rest = 2 * (units % step)
    if twice_rest > step or (twice_rest == step and kept % 2 == 1):
        kept += 1
    # Adding lets the leading bit, and a carry out of rounding, raise the exponent by themselves.
    bits = (surplus << FRACTION_BITS) + kept
    return min(bits, INFINITY)
