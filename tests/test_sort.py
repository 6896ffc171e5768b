import itertools
import math
import unittest

from complexsingles.singles import sort, square
from tests.reference import (
    FIVE, INFINITY, LARGEST, MINUS_INFINITY, MINUS_ONE, MINUS_ZERO, NO_NUMBER_ANSWER, NO_NUMBERS, ONE, THREE, TWO, ZERO,
    kinds_numbers, mixed_numbers, number_of, pairs_of, reference_square,
)


def stands_before(squares, p, q):
    """The document's own words: whether place p stands before place q."""
    if squares[p] == NO_NUMBER_ANSWER or squares[q] == NO_NUMBER_ANSWER:
        if squares[p] == squares[q]:
            return p < q
        return squares[q] == NO_NUMBER_ANSWER
    left, right = number_of(squares[p]), number_of(squares[q])
    return left < right or (left == right and p < q)


class SortTest(unittest.TestCase):
    def check(self, cases):
        for numbers, places in cases:
            x = [part for number in numbers for part in number]
            with self.subTest(x=[hex(part) for part in x]):
                self.assertEqual(sort(len(numbers), x), [0] + places)

    def check_order(self, n, x):
        answer = sort(n, x)
        squares = [reference_square(*number)[0] for number in pairs_of(x)]
        self.assertEqual(answer[0], 0)
        self.assertEqual(sorted(answer[1:]), list(range(n)))
        for p, q in itertools.combinations(answer[1:], 2):
            self.assertTrue(stands_before(squares, p, q), (n, x, p, q))

    def test_one_number(self):
        for number in ((ONE, TWO), (MINUS_ZERO, ZERO), (INFINITY, ONE), (NO_NUMBERS[0], ONE)):
            self.check([([number], [0])])

    def test_two_numbers(self):
        self.check([
            ([(ONE, TWO), (THREE, ZERO)], [0, 1]),
            ([(THREE, ZERO), (ONE, TWO)], [1, 0]),
            ([(ZERO, 0xC0400000), (TWO, MINUS_ONE)], [1, 0]),
        ])

    def test_three_numbers(self):
        numbers = [(ONE, ZERO), (ONE, MINUS_ONE), (ZERO, 0xC0000000)]  # squares 1, 2, 4
        for order in itertools.permutations(range(3)):
            self.check([([numbers[place] for place in order], [order.index(rank) for rank in range(3)])])

    def test_sixty_four_numbers(self):
        rising = [(0x3F800000 + (place << 16), ZERO) for place in range(64)]
        mixed = [rising[place * 27 % 64] for place in range(64)]
        self.check([
            (rising, list(range(64))),
            (rising[::-1], list(range(63, -1, -1))),
            (mixed, [place * 19 % 64 for place in range(64)]),  # 27 times 19 is 1 mod 64
            ([(TWO, THREE)] * 64, list(range(64))),
        ])

    def test_refused(self):
        for n in (0, 65, 4294967295):
            self.assertEqual(sort(n, []), [-1])

    def test_both_parts_count(self):
        self.check([
            ([(THREE, ZERO), (TWO, FIVE), (TWO, ONE)], [2, 0, 1]),
            ([(ZERO, THREE), (FIVE, TWO), (ONE, TWO)], [2, 0, 1]),
            ([(0xC0A00000, ZERO), (ONE, ONE), (ZERO, 0xC0400000)], [1, 2, 0]),  # signs don't count
        ])

    def test_equal_squares_by_their_places(self):
        self.check([
            ([(THREE, 0x40800000), (FIVE, ZERO), (ZERO, 0xC0A00000), (0xC0800000, THREE)], [0, 1, 2, 3]),
            ([(TWO, ZERO), (ONE, ZERO), (ZERO, TWO), (ZERO, MINUS_ONE), (0xC0000000, ZERO)], [1, 3, 0, 2, 4]),
        ])

    def test_squares_that_are_equal_when_rounded(self):
        smaller, larger = (0x45800000, ZERO), (0x45800000, ONE)  # 4096 squared, and 1 more
        self.assertEqual(square(*smaller), square(*larger))
        self.check([
            ([larger, smaller], [0, 1]),
            ([smaller, larger], [0, 1]),
            ([larger, smaller, larger, (ONE, ONE), smaller], [3, 0, 1, 2, 4]),
        ])

    def test_rounded_squares_count(self):
        # Each first number's exact square is the smaller one, its rounded square the larger one.
        self.check([
            ([(0x3F86C152, 0x3F875B45), (0x3F86D58D, 0x3F87471E)], [1, 0]),
            ([(0x3F86A8C6, 0x3F894563), (0x3F8BED53, 0x3F83E5B1)], [1, 0]),
            ([(0x3F8BED53, 0x3F83E5B1), (0x3F86A8C6, 0x3F894563)], [0, 1]),
        ])

    def test_squares_that_fall_to_zero(self):
        self.check([
            ([(0x0D800000, ZERO), (ZERO, ZERO), (0x00000001, 0x007FFFFF), (ZERO, 0x8D800000)], [0, 1, 2, 3]),
            ([(0x1A000001, ZERO), (0x1A000000, 0x1A000000), (ZERO, ZERO)], [1, 2, 0]),
        ])

    def test_infinite_squares(self):
        self.check([
            ([(LARGEST, ZERO), (INFINITY, ZERO), (0x5F800000, ZERO), (ZERO, MINUS_INFINITY)], [0, 1, 2, 3]),
            ([(INFINITY, ONE), (LARGEST, LARGEST), (0x5F7FFFFF, ZERO)], [2, 0, 1]),
        ])

    def test_zeros_are_equal(self):
        zeros = [(ZERO, ZERO), (ZERO, MINUS_ZERO), (MINUS_ZERO, ZERO), (MINUS_ZERO, MINUS_ZERO)]
        for order in itertools.permutations(zeros):
            self.check([(list(order), [0, 1, 2, 3])])
            self.check([([(ONE, ZERO)] + list(order), [1, 2, 3, 4, 0])])

    def test_no_numbers_stand_last(self):
        for none in NO_NUMBERS:
            self.check([
                ([(none, ONE), (ONE, ONE)], [1, 0]),
                ([(ONE, none), (INFINITY, ONE)], [1, 0]),
                ([(ONE, ONE), (none, ONE)], [0, 1]),
                ([(INFINITY, INFINITY), (none, none)], [0, 1]),
                ([(none, INFINITY), (MINUS_INFINITY, ZERO), (ZERO, ZERO)], [2, 1, 0]),
            ])

    def test_several_no_numbers_by_their_places(self):
        for none in NO_NUMBERS:
            other = NO_NUMBERS[-1]
            self.check([
                ([(none, ONE), (ONE, other), (other, none)], [0, 1, 2]),
                ([(other, ONE), (THREE, ONE), (ZERO, none), (ONE, ONE), (none, INFINITY)], [3, 1, 0, 2, 4]),
                ([(INFINITY, ONE), (none, ZERO), (ONE, ONE), (ZERO, other), (LARGEST, ONE)], [2, 0, 4, 1, 3]),
            ])

    def test_ordinary_lists(self):
        for n in range(1, 65):
            self.check_order(n, mixed_numbers(n, n))

    def test_lists_of_all_kinds(self):
        for n in list(range(1, 12)) + [63, 64]:
            for seed in range(10):
                self.check_order(n, kinds_numbers(n, 100 * n + seed))

    def test_by_square(self):
        x = mixed_numbers(64, 77)
        places = sort(64, x)[1:]
        squares = [number_of(square(*pairs_of(x)[place])[0]) for place in places]
        self.assertEqual(squares, sorted(squares))
        self.assertTrue(all(math.isfinite(value) for value in squares))


if __name__ == "__main__":
    unittest.main()
