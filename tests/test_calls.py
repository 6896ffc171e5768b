"""What holds of every call: its form, and that it leaves nothing behind."""

import contextlib
import copy
import inspect
import io
import pathlib
import subprocess
import sys
import unittest
from unittest import mock

from complexsingles import singles
from tests.reference import FIVE, INFINITY, NO_NUMBERS, ONE, THREE, TWO, ZERO

CALLS = [singles.sum_of, singles.difference]
HANDED_IN = [
    [ONE, FIVE, TWO, THREE],
    [ZERO, 0x80000000, 0x80000000, 0x80000000],
    [INFINITY, 0x007FFFFF, INFINITY, 0x00000001],
    [NO_NUMBERS[0], ONE, TWO, NO_NUMBERS[-1]],
]
TOP = pathlib.Path(__file__).resolve().parent.parent


def kept_by_module():
    return {name: copy.copy(value) for name, value in vars(singles).items() if name != "__builtins__"}


class CallsTest(unittest.TestCase):
    def test_arguments(self):
        for call in CALLS:
            self.assertEqual(list(inspect.signature(call).parameters), ["ar", "ai", "br", "bi"])
            self.assertEqual(call(ar=ONE, ai=FIVE, br=TWO, bi=THREE), call(ONE, FIVE, TWO, THREE))
            for handed_in in ([], [ONE, ONE, ONE], [ONE] * 5):
                with self.assertRaises(TypeError):
                    call(*handed_in)

    def test_answer_is_a_list_of_two_whole_numbers(self):
        for call in CALLS:
            for handed_in in HANDED_IN:
                answer = call(*handed_in)
                self.assertIs(type(answer), list)
                self.assertEqual([type(part) for part in answer], [int, int])

    def test_handed_in_stays_and_second_call_answers_the_same(self):
        before = kept_by_module()
        for call in CALLS:
            for handed_in in HANDED_IN:
                given = list(handed_in)
                first = call(*given)
                copied = list(first)
                self.assertEqual(given, handed_in)
                # Spoiling an answer must not reach into the next one.
                first.clear()
                call(THREE, NO_NUMBERS[1], INFINITY, ZERO)
                self.assertEqual(call(*given), copied)
        self.assertEqual(kept_by_module(), before)

    def test_prints_reads_and_imports_nothing(self):
        printed = io.StringIO()
        with contextlib.ExitStack() as stack:
            stack.enter_context(contextlib.redirect_stdout(printed))
            stack.enter_context(contextlib.redirect_stderr(printed))
            for name in ("open", "input", "__import__"):
                stack.enter_context(mock.patch(f"builtins.{name}", side_effect=AssertionError(name)))
            for call in CALLS:
                for handed_in in HANDED_IN:
                    call(*handed_in)
        self.assertEqual(printed.getvalue(), "")

    def test_package_draws_on_itself_alone(self):
        program = (
            "import sys; before = set(sys.modules); import complexsingles.singles; "
            "print(*sorted(set(sys.modules) - before))"
        )
        done = subprocess.run([sys.executable, "-c", program], cwd=TOP, capture_output=True, text=True, check=True)
        for name in done.stdout.split():
            self.assertEqual(name.split(".")[0], "complexsingles")
        self.assertEqual(done.stderr, "")


if __name__ == "__main__":
    unittest.main()
