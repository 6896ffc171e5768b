"""Complex numbers whose parts are singles (IEEE 754 binary32), each part told by its bits."""

from complexsingles.forms import converted, double_form, single_form

NO_NUMBER_ANSWER = 4294967296
LARGEST_COUNT = 64


def sum_of(ar, ai, br, bi):
    """a + b, part by part."""
    form = single_form()
    return answered(form, sum_parts(form, [ar, ai], [br, bi]))


def difference(ar, ai, br, bi):
    """a - b, part by part."""
    form = single_form()
    return answered(form, [form.minus(ar, br), form.minus(ai, bi)])


def product(ar, ai, br, bi):
    """a times b, mended where both parts would be no numbers."""
    form = single_form()
    return answered(form, product_parts(form, [ar, ai], [br, bi]))


def quotient(ar, ai, br, bi):
    """a by b, made in doubles and rounded to singles behind it, mended where both parts would be no numbers."""
    singles = single_form()
    doubles = double_form()
    a = [converted(singles, ar, doubles), converted(singles, ai, doubles)]
    b = [converted(singles, br, doubles), converted(singles, bi, doubles)]
    parts = quotient_parts(doubles, a, b)
    return answered(singles, [converted(doubles, part, singles) for part in parts])


def conjugate(ar, ai):
    """a with the other sign of its imaginary part."""
    form = single_form()
    return answered(form, [ar, form.opposite(ai)])


def square(ar, ai):
    """ar ar + ai ai."""
    form = single_form()
    return answered(form, [square_part(form, ar, ai)])


def polynomial(n, c, z):
    """0, and the value at z of the polynomial whose n coefficients are c; or -1 alone."""
    if is_refused(n):
        return [-1]
    form = single_form()
    return [0] + answered(form, polynomial_parts(form, n, c, z))


def transform(n, x, w):
    """0, and for each k below n the sum of the products of x[j] and w[(j k) mod n]; or -1 alone."""
    if is_refused(n):
        return [-1]
    form = single_form()
    answer = [0]
    for k in range(n):
        answer.extend(answered(form, transform_parts(form, n, x, w, k)))
    return answer


def sort(n, x):
    """0, and the n places of x in the order of its numbers' squares; or -1 alone."""
    if is_refused(n):
        return [-1]
    form = single_form()
    # A square has no sign, not even if it is 0, so squares stand in the order of their bits, and what is no
    # number is answered as more than any of these. Of equal ones sorted leaves the smaller place first.
    squares = answered(form, [square_part(form, x[2 * place], x[2 * place + 1]) for place in range(n)])
    return [0] + sorted(range(n), key=lambda place: squares[place])


def is_refused(n):
    """Whether a list of n complex numbers is empty or too long, so that the call is refused."""
    return n < 1 or n > LARGEST_COUNT


def number_at(numbers, place):
    """The two parts of the complex number at a place of a list."""
    return [numbers[2 * place], numbers[2 * place + 1]]


def answered(form, parts):
    """The parts as they are given back: what is no number loses its bits."""
    return [NO_NUMBER_ANSWER if form.is_no_number(part) else part for part in parts]


def sum_parts(form, a, b):
    """The parts of a + b."""
    return [form.plus(a[0], b[0]), form.plus(a[1], b[1])]


def product_parts(form, a, b):
    """The parts of a times b, mended if both are no numbers."""
    products = four_products(form, a, b)
    parts = parts_of_products(form, products)
    if all_no_numbers(form, parts):
        return mended_product(form, a, b, products, parts)
    return parts


def four_products(form, a, b):
    """ar br, ai bi, ar bi and ai br."""
    return [form.times(a[0], b[0]), form.times(a[1], b[1]), form.times(a[0], b[1]), form.times(a[1], b[0])]


def parts_of_products(form, products):
    """The parts of a times b, of its four products."""
    return [form.minus(products[0], products[1]), form.plus(products[2], products[3])]


def mended_product(form, a, b, products, parts):
    """The parts of a times b where both of the parts first made are no numbers."""
    a_infinite = any_infinite(form, a)
    if a_infinite:
        a = ones_for_infinities(form, a)
        b = zeros_for_no_numbers(form, b)
    b_infinite = any_infinite(form, b)
    if b_infinite:
        b = ones_for_infinities(form, b)
        a = zeros_for_no_numbers(form, a)
    if not a_infinite and not b_infinite:
        if not any_infinite(form, products):
            return parts
        a = zeros_for_no_numbers(form, a)
        b = zeros_for_no_numbers(form, b)
    return scaled(form, form.infinity, parts_of_products(form, four_products(form, a, b)))


def quotient_parts(form, a, b):
    """The parts of a by b, mended if both are no numbers.

    In rounding them to a narrower form a number stays a number and a NaN a NaN, so that it may follow behind.
    """
    d = square_part(form, b[0], b[1])
    dividends = quotient_dividends(form, a, b)
    parts = [form.by(dividends[0], d), form.by(dividends[1], d)]
    if all_no_numbers(form, parts):
        return mended_quotient(form, a, b, d, parts)
    return parts


def quotient_dividends(form, a, b):
    """ar br + ai bi and ai br - ar bi."""
    real = form.plus(form.times(a[0], b[0]), form.times(a[1], b[1]))
    imaginary = form.minus(form.times(a[1], b[0]), form.times(a[0], b[1]))
    return [real, imaginary]


def mended_quotient(form, a, b, d, parts):
    """The parts of a by b where both of the parts first made are no numbers."""
    if form.is_zero(d) and not all_no_numbers(form, a):
        return scaled(form, form.signed(form.infinity, form.is_negative(b[0])), a)
    if any_infinite(form, a) and all_finite(form, b):
        return scaled(form, form.infinity, quotient_dividends(form, ones_for_infinities(form, a), b))
    if any_infinite(form, b) and all_finite(form, a):
        return scaled(form, 0, quotient_dividends(form, a, ones_for_infinities(form, b)))
    return parts


def polynomial_parts(form, n, c, z):
    """The parts of the polynomial's value, from the last coefficient on."""
    r = number_at(c, n - 1)
    for place in range(n - 2, -1, -1):
        r = sum_parts(form, product_parts(form, r, z), number_at(c, place))
    return r


def transform_parts(form, n, x, w, k):
    """The parts of the k-th number of the transform."""
    # The first product as it is: were it added to 0, a negative zero would lose its sign.
    total = product_parts(form, number_at(x, 0), number_at(w, 0))
    for j in range(1, n):
        total = sum_parts(form, total, product_parts(form, number_at(x, j), number_at(w, j * k % n)))
    return total


def square_part(form, real, imaginary):
    """real real + imaginary imaginary."""
    return form.plus(form.times(real, real), form.times(imaginary, imaginary))


def scaled(form, factor, parts):
    """Each part, factor times."""
    return [form.times(factor, part) for part in parts]


def ones_for_infinities(form, parts):
    """Each part replaced by 1 with its sign if it is infinite, else by 0 with its sign."""
    return [form.signed(form.one if form.is_infinite(part) else 0, form.is_negative(part)) for part in parts]


def zeros_for_no_numbers(form, parts):
    """Each part that is no number replaced by 0 with its sign."""
    return [form.signed(0, form.is_negative(part)) if form.is_no_number(part) else part for part in parts]


def any_infinite(form, parts):
    """Whether a part is infinite."""
    return any([form.is_infinite(part) for part in parts])


def all_finite(form, parts):
    """Whether no part is infinite or no number."""
    return all([form.is_finite(part) for part in parts])


def all_no_numbers(form, parts):
    """Whether every part is no number."""
    return all([form.is_no_number(part) for part in parts])
