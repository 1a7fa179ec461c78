"""What holds for all calls: their names and arguments, and that they change, keep, print and read nothing."""

import builtins
import contextlib
import copy
import inspect
import io
import sys
import unittest
from unittest import mock

from tests.helper import ALL_NUMBERS, CALLS, LINE, ask_of, drawing, random_cases, zigzag
from tubepicture import pictures


class Untouchable(list):
    """A list that nobody may change, not for a while either."""

    def refuse(self, *told, **named):
        raise AssertionError("what is handed in was changed")

    append = clear = extend = insert = pop = remove = reverse = sort = refuse
    __setitem__ = __delitem__ = __iadd__ = __imul__ = refuse


def texts():
    crossed = drawing([(0, 0), (9, 9), (0, 9), (9, 0)])
    return [LINE, drawing(zigzag(64)), [], [10], LINE[:-1], [65] * 65536, [65] * 65537, crossed]


def values_at_the_top():
    """What the package's files hold at their tops, but for functions and classes."""
    return {(name, key): copy.deepcopy(value) for name, module in sys.modules.items()
            if name.split(".")[0] == "tubepicture" for key, value in vars(module).items()
            if isinstance(value, (int, str, list, tuple, dict)) and not key.startswith("__")}


def depth():
    return len(inspect.stack(0))


class Interface(unittest.TestCase):
    @classmethod
    def setUpClass(cls):
        cls.asked = [(t, window) for strokes, t, window in random_cases(60)[:10]]
        cls.asked += [(t, dict(ALL_NUMBERS, a=a, x=x, w=w)) for t in texts()
                      for a, x, w in ((1, 0, 8), (1, 2 ** 31 - 1, 0), (2 ** 64 - 1, 0, 8), (0, 0, 8))]

    def test_names_and_arguments(self):
        told = {"bits": "a x y w h s r t", "file": "a x y w h s r t", "count": "a x y w h s r t", "lit": "a x y r t",
                "near": "a x y t"}
        self.assertEqual(set(told), set(CALLS))
        for call, names in told.items():
            signature = inspect.signature(getattr(pictures, call))
            self.assertEqual(" ".join(signature.parameters), names)
            for parameter in signature.parameters.values():
                self.assertIs(parameter.default, inspect.Parameter.empty)

    def test_lists_of_whole_numbers_are_given_back(self):
        for call in CALLS:
            for t, numbers in self.asked:
                answer = ask_of(call, t, **numbers)
                self.assertIs(type(answer), list)
                self.assertEqual({type(number) for number in answer}, {int})

    def test_what_is_handed_in_stays(self):
        for call, order in CALLS.items():
            for t, numbers in self.asked:
                handed = Untouchable(t)
                getattr(pictures, call)(*[numbers[name] for name in order], handed)
                self.assertEqual(list(handed), t)

    def test_what_is_given_back_is_the_callers(self):
        for call in CALLS:
            for t, numbers in self.asked:
                first = ask_of(call, t, **numbers)
                kept = list(first)
                first.append(9)
                first[0] = 77
                self.assertEqual(ask_of(call, t, **numbers), kept)

    def test_a_second_call_answers_as_the_first(self):
        calls = [(call, t, numbers) for t, numbers in self.asked for call in CALLS]
        before = values_at_the_top()
        first = [ask_of(call, t, **numbers) for call, t, numbers in calls]
        self.assertEqual([ask_of(call, t, **numbers) for call, t, numbers in calls], first)
        self.assertEqual([ask_of(call, t, **numbers) for call, t, numbers in reversed(calls)], first[::-1])
        self.assertEqual(values_at_the_top(), before)

    def test_a_changed_text_is_read_anew(self):
        t = list(LINE)
        self.assertEqual(pictures.near(1, 0, 9, t), [0, 81, 1, 0])
        t[:] = drawing([(0, 8), (9, 8)])
        self.assertEqual(pictures.near(1, 0, 9, t), [0, 1, 1, 0])
        t.pop()
        self.assertEqual(pictures.near(1, 0, 9, t), [-6])

    def test_nothing_is_printed_read_or_imported(self):
        def refuse(*told, **named):
            raise AssertionError("something was read or imported")

        out, err = io.StringIO(), io.StringIO()
        closed = mock.Mock(spec=[])
        with contextlib.redirect_stdout(out), contextlib.redirect_stderr(err), mock.patch.object(sys, "stdin", closed):
            with mock.patch.multiple(builtins, open=refuse, input=refuse, __import__=refuse):
                for call in CALLS:
                    for t, numbers in self.asked:
                        ask_of(call, t, **numbers)
        self.assertEqual((out.getvalue(), err.getvalue()), ("", ""))

    def test_long_texts_need_no_deep_calls(self):
        digits = list(b"sign A\nstroke 0,0 1," + b"9" * 65000 + b"\n")
        longs = [*texts(), digits, [10] * 65536, [32] * 65536, list(b"sign A\n") + [10] * 65000]
        limit = sys.getrecursionlimit()
        sys.setrecursionlimit(depth() + 60)
        try:
            answers = [ask_of(call, t) for call in CALLS for t in longs]
        finally:
            sys.setrecursionlimit(limit)
        self.assertEqual(len(answers), len(CALLS) * len(longs))


if __name__ == "__main__":
    unittest.main()
