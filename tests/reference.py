"""Numbers that the tests share, and a second way to reckon with singles, by Python's own floats."""

import math
import struct

NO_NUMBER_ANSWER = 4294967296

ZERO = 0x00000000
MINUS_ZERO = 0x80000000
ONE = 0x3F800000
MINUS_ONE = 0xBF800000
TWO = 0x40000000
THREE = 0x40400000
FIVE = 0x40A00000
EIGHT = 0x41000000
LARGEST = 0x7F7FFFFF
MINUS_LARGEST = 0xFF7FFFFF
INFINITY = 0x7F800000
MINUS_INFINITY = 0xFF800000

NO_NUMBERS = [
    0x7F800001, 0x7FA00000, 0x7FBFFFFF, 0x7FC00000, 0x7FC00001, 0x7FFFFFFF,
    0xFF800001, 0xFFA00000, 0xFFBFFFFF, 0xFFC00000, 0xFFC00001, 0xFFFFFFFF,
]


def bits_of(number):
    """The bits of the single nearest to a float; what is no number as it is answered."""
    if math.isnan(number):
        return NO_NUMBER_ANSWER
    try:
        return struct.unpack("<I", struct.pack("<f", number))[0]
    except OverflowError:
        return INFINITY if number > 0 else MINUS_INFINITY


def number_of(bits):
    number = struct.unpack("<f", struct.pack("<I", bits))[0]
    # Not every machine keeps the sign of what is no number when it widens it.
    return math.copysign(math.nan, 0.5 - (bits >> 31)) if math.isnan(number) else number


def as_single(number):
    """A float rounded to a single, as a float."""
    return number if math.isnan(number) else number_of(bits_of(number))


# A double has more than twice a single's bits and two, so that rounding to a double first and to
# a single then gives what rounding once does. (Of two singles' sum, difference or product each.)
def reference_sum(x, y):
    return bits_of(number_of(x) + number_of(y))


def reference_difference(x, y):
    return bits_of(number_of(x) - number_of(y))


def sign_for_infinite(number):
    """1 with its sign if it is infinite, else 0 with its sign."""
    return math.copysign(1.0 if math.isinf(number) else 0.0, number)


def number_or_zero(number):
    return math.copysign(0.0, number) if math.isnan(number) else number


def reference_product(*four):
    ar, ai, br, bi = [number_of(bits) for bits in four]
    products = [as_single(ar * br), as_single(ai * bi), as_single(ar * bi), as_single(ai * br)]
    x = as_single(products[0] - products[1])
    y = as_single(products[2] + products[3])
    if math.isnan(x) and math.isnan(y):
        mended = False
        if math.isinf(ar) or math.isinf(ai):
            ar, ai = sign_for_infinite(ar), sign_for_infinite(ai)
            br, bi = number_or_zero(br), number_or_zero(bi)
            mended = True
        if math.isinf(br) or math.isinf(bi):
            br, bi = sign_for_infinite(br), sign_for_infinite(bi)
            ar, ai = number_or_zero(ar), number_or_zero(ai)
            mended = True
        if not mended and any(math.isinf(product) for product in products):
            ar, ai, br, bi = [number_or_zero(part) for part in (ar, ai, br, bi)]
            mended = True
        if mended:
            x = math.inf * as_single(as_single(ar * br) - as_single(ai * bi))
            y = math.inf * as_single(as_single(ar * bi) + as_single(ai * br))
    return [bits_of(x), bits_of(y)]


def reference_quotient(*four):
    ar, ai, br, bi = [number_of(bits) for bits in four]
    d = br * br + bi * bi
    # By 0 there is only 0 or no number here, and Python's floats refuse it.
    x = (ar * br + ai * bi) / d if d != 0 else math.nan
    y = (ai * br - ar * bi) / d if d != 0 else math.nan
    if math.isnan(x) and math.isnan(y):
        if d == 0 and not (math.isnan(ar) and math.isnan(ai)):
            x = math.copysign(math.inf, br) * ar
            y = math.copysign(math.inf, br) * ai
        elif (math.isinf(ar) or math.isinf(ai)) and math.isfinite(br) and math.isfinite(bi):
            ar, ai = sign_for_infinite(ar), sign_for_infinite(ai)
            x = math.inf * (ar * br + ai * bi)
            y = math.inf * (ai * br - ar * bi)
        elif (math.isinf(br) or math.isinf(bi)) and math.isfinite(ar) and math.isfinite(ai):
            br, bi = sign_for_infinite(br), sign_for_infinite(bi)
            x = 0.0 * (ar * br + ai * bi)
            y = 0.0 * (ai * br - ar * bi)
    return [bits_of(x), bits_of(y)]


def reference_square(ar, ai):
    return [bits_of(as_single(number_of(ar) ** 2) + as_single(number_of(ai) ** 2))]


def told(parts):
    """Parts as they were answered, as they can be handed in again."""
    return [0x7FC00000 if part == NO_NUMBER_ANSWER else part for part in parts]


def answer_of(parts):
    return [bits_of(number_of(part)) for part in parts]


def reference_sum_of(a, b):
    return [reference_sum(a[0], b[0]), reference_sum(a[1], b[1])]


def pairs_of(numbers):
    return list(zip(numbers[0::2], numbers[1::2]))


def reference_polynomial(n, c, z):
    coefficients = pairs_of(c)
    r = coefficients.pop()
    while coefficients:
        r = reference_sum_of(told(reference_product(*told(r), *z)), coefficients.pop())
    return [0] + answer_of(told(r))


def reference_transform(n, x, w):
    answer = [0]
    for k in range(n):
        products = [told(reference_product(*a, *pairs_of(w)[j * k % n])) for j, a in enumerate(pairs_of(x))]
        total = products[0]
        for following in products[1:]:
            total = told(reference_sum_of(total, following))
        answer += answer_of(total)
    return answer


# One of each kind: zeros, infinities and no numbers of either sign, denormal, ordinary, and those
# whose products are too small or too large.
KINDS = [
    ZERO, MINUS_ZERO, 0x00000003, 0x20000001, ONE, 0xC0400000,
    0x60000000, MINUS_LARGEST, INFINITY, MINUS_INFINITY, 0x7FC00000, 0xFF800001,
]


def draws(seed):
    """Whole numbers below 2 to the 40 in no plain order, the same ones each time."""
    state = seed
    while True:
        state = (state * 6364136223846793005 + 1442695040888963407) % 2 ** 64
        yield state >> 24


def drawn_single(draw, first, width):
    """A single of either sign with one of width exponents from first on."""
    number = next(draw)
    return (number >> 39 << 31) + (first + (number >> 23) % 2 ** 16 % width << 23) + number % 2 ** 23


def mixed_fours(count):
    """Fours of singles of all sizes, many of them near one another."""
    draw = draws(20261116)
    spans = [(0, 255), (118, 8), (56, 12), (188, 8), (0, 3), (250, 6), (62, 4), (126, 2)]
    return [[drawn_single(draw, *spans[k % len(spans)]) for part in range(4)] for k in range(count)]


def mixed_numbers(count, seed):
    """A list of count complex numbers whose parts are ordinary."""
    draw = draws(seed)
    return [drawn_single(draw, 120, 12) for part in range(2 * count)]


def kinds_numbers(count, seed):
    """A list of count complex numbers whose parts are of all kinds, but mostly ordinary."""
    draw = draws(seed)
    kinds = KINDS + [ONE, TWO, MINUS_ONE, 0x3DCCCCCD, 0xC0A00000, THREE] * 2
    return [kinds[(next(draw) >> 10) % len(kinds)] for part in range(2 * count)]


def many_singles():
    """Singles of either sign, near and far apart, with the fractions at which rounding turns."""
    exponents = [0, 1, 2, 3, 23, 24, 25, 26, 102, 103, 104, 126, 127, 128, 150, 151, 152, 229, 230, 253, 254, 255]
    fractions = [0, 1, 2, 3, 0x3FFFFF, 0x400000, 0x400001, 0x555555, 0x7FFFFE, 0x7FFFFF]
    return [
        sign + (exponent << 23) + fraction
        for sign in (0, 0x80000000)
        for exponent in exponents
        for fraction in fractions
    ]


class Guarded(list):
    """A list that can't be changed, not for a while either."""

    def refuse(self, *handed_in, **named):
        raise AssertionError("what is handed in was changed")

    append = clear = extend = insert = pop = remove = reverse = sort = refuse
    __setitem__ = __delitem__ = __iadd__ = __imul__ = refuse


def check_fours(test, call, cases):
    """Asks for each (four, answer)."""
    for four, answer in cases:
        with test.subTest(four=[hex(bits) for bits in four]):
            test.assertEqual(call(*four), answer)


def check_parts(test, call, beside, cases):
    """Asks for each (x, y, answer) in the real and in the imaginary part, with 5 and 3 in the other.

    beside is what the other part answers.
    """
    for x, y, answer in cases:
        with test.subTest(x=hex(x), y=hex(y)):
            test.assertEqual(call(x, FIVE, y, THREE), [answer, beside])
            test.assertEqual(call(FIVE, x, THREE, y), [beside, answer])
