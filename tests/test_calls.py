"""What holds of every call: its form, and that it leaves nothing behind."""

import contextlib
import copy
import inspect
import io
import pathlib
import subprocess
import sys
import unittest
from unittest import mock

from complexsingles import forms, singles
from tests.reference import FIVE, INFINITY, NO_NUMBERS, ONE, THREE, TWO, ZERO, Guarded, kinds_numbers, mixed_numbers

FOUR_NAMES = ["ar", "ai", "br", "bi"]
FOURS = [
    [ONE, FIVE, TWO, THREE],
    [ZERO, 0x80000000, 0x80000000, 0x80000000],
    [INFINITY, 0x007FFFFF, INFINITY, 0x00000001],
    [INFINITY, INFINITY, ZERO, ZERO],
    [NO_NUMBERS[0], ONE, TWO, NO_NUMBERS[-1]],
    [INFINITY, NO_NUMBERS[0], ONE, TWO],
    [ONE, TWO, NO_NUMBERS[-1], INFINITY],
]

COUNTS = [1, 2, 3, 64]
REFUSED_COUNTS = [0, 65, 4294967295]
LISTS = [
    (n, numbers_of(n, 1), numbers_of(n, 2)) for numbers_of in (mixed_numbers, kinds_numbers) for n in COUNTS
]

# Of each function its arguments' names, some that are handed in, and how many numbers each of these answers.
CALLS = [
    (singles.sum_of, FOUR_NAMES, [(four, 2) for four in FOURS]),
    (singles.difference, FOUR_NAMES, [(four, 2) for four in FOURS]),
    (singles.product, FOUR_NAMES, [(four, 2) for four in FOURS]),
    (singles.quotient, FOUR_NAMES, [(four, 2) for four in FOURS]),
    (singles.conjugate, ["ar", "ai"], [(four[:2], 2) for four in FOURS]),
    (singles.square, ["ar", "ai"], [(four[:2], 1) for four in FOURS]),
    (
        singles.polynomial, ["n", "c", "z"],
        [([n, first, second[-2:]], 3) for n, first, second in LISTS]
        + [([n, [], [ONE, TWO]], 1) for n in REFUSED_COUNTS],
    ),
    (
        singles.transform, ["n", "x", "w"],
        [([n, first, second], 1 + 2 * n) for n, first, second in LISTS] + [([n, [], []], 1) for n in REFUSED_COUNTS],
    ),
    (
        singles.sort, ["n", "x"],
        [([n, first], 1 + n) for n, first, second in LISTS] + [([n, []], 1) for n in REFUSED_COUNTS],
    ),
]
TOP = pathlib.Path(__file__).resolve().parent.parent


def each_call():
    """(function, what is handed in, how many numbers are answered) of all of the above."""
    return [(call, handed_in, length) for call, names, asked in CALLS for handed_in, length in asked]


def kept_by_modules():
    return [
        {name: copy.deepcopy(value) for name, value in vars(module).items() if name != "__builtins__"}
        for module in (singles, forms)
    ]


class CallsTest(unittest.TestCase):
    def test_arguments(self):
        for call, names, asked in CALLS:
            self.assertEqual(list(inspect.signature(call).parameters), names)
            handed_in = asked[0][0]
            self.assertEqual(call(**dict(zip(names, handed_in))), call(*handed_in))
            for wrong in ([], handed_in[:-1], handed_in + [ONE]):
                with self.assertRaises(TypeError):
                    call(*wrong)

    def test_answer_is_a_list_of_whole_numbers(self):
        for call, handed_in, length in each_call():
            answer = call(*handed_in)
            self.assertIs(type(answer), list)
            self.assertEqual([type(part) for part in answer], [int] * length)

    def test_handed_in_stays_and_second_call_answers_the_same(self):
        before = kept_by_modules()
        for call, handed_in, length in each_call():
            given = copy.deepcopy(handed_in)
            first = call(*given)
            copied = list(first)
            self.assertEqual(given, handed_in)
            # Spoiling an answer must not reach into the next one.
            first.clear()
            self.assertEqual(given, handed_in)
            self.assertEqual(call(*given), copied)
        self.assertEqual(kept_by_modules(), before)

    def test_handed_in_is_not_changed_for_a_while_either(self):
        for call, handed_in, length in each_call():
            guarded = [Guarded(given) if isinstance(given, list) else given for given in handed_in]
            self.assertEqual(call(*guarded), call(*handed_in))

    def test_calls_in_any_order_answer_as_if_each_was_the_first(self):
        calls = each_call()
        answers = [call(*handed_in) for call, handed_in, length in calls]
        backwards = [call(*handed_in) for call, handed_in, length in reversed(calls)]
        self.assertEqual(list(reversed(backwards)), answers)
        # A step that has no divisor in common with their count meets each of them, in another order.
        count = len(calls)
        step = next(step for step in range(count // 3, count) if all(step * k % count for k in range(1, count)))
        for k in range(count):
            call, handed_in, length = calls[k * step % count]
            self.assertEqual(call(*handed_in), answers[k * step % count])

    def test_prints_reads_and_imports_nothing(self):
        printed = io.StringIO()
        with contextlib.ExitStack() as stack:
            stack.enter_context(contextlib.redirect_stdout(printed))
            stack.enter_context(contextlib.redirect_stderr(printed))
            for name in ("open", "input", "__import__"):
                stack.enter_context(mock.patch(f"builtins.{name}", side_effect=AssertionError(name)))
            for call, handed_in, length in each_call():
                call(*handed_in)
        self.assertEqual(printed.getvalue(), "")

    def test_package_draws_on_itself_alone(self):
        program = (
            "import sys; before = set(sys.modules); import complexsingles.singles; "
            "print(*sorted(set(sys.modules) - before))"
        )
        done = subprocess.run([sys.executable, "-c", program], cwd=TOP, capture_output=True, text=True, check=True)
        for name in done.stdout.split():
            self.assertEqual(name.split(".")[0], "complexsingles")
        self.assertEqual(done.stderr, "")


if __name__ == "__main__":
    unittest.main()
