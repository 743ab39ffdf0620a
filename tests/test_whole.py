"""What holds for all calls together: the interface, and that each call is as if for the first time."""

import inspect
import pathlib
import re
import subprocess
import sys
import unittest

from evenwords import desk
from helper import FrozenList, check_whole_numbers, nothing_done_outside

TOP = pathlib.Path(desk.__file__).parent.parent

INTERFACE = {
    "ew_even": ["w"], "ew_line": ["p", "q", "r", "n"], "ew_shape": ["w"], "ew_kinds": ["n", "m", "w"],
    "ew_round": ["n", "m", "w"], "ew_count": ["n", "p"], "ew_kth": ["n", "k"], "ew_last": ["w"],
    "ew_gaps": ["n", "s", "k"], "ew_cut": ["p", "q"],
}

LONG = [i * i % 256 for i in range(512)]

CALLS = (
    ("ew_even", ([0, 1] * 128,)), ("ew_even", ([],)), ("ew_even", ([2],)), ("ew_even", ([1, 1, 0, 0],)),
    ("ew_line", (5, 13, 7, 4096)), ("ew_line", (1, 0, 0, 1)),
    ("ew_shape", ([0] * 255 + [1],)), ("ew_shape", ([],)), ("ew_shape", ([3],)), ("ew_shape", ([1, 1, 0, 0],)),
    ("ew_kinds", (512, 3, LONG)), ("ew_kinds", (0, 0, [])),
    ("ew_round", (512, 511, LONG)), ("ew_round", (3, 2, [1, 2, 3])), ("ew_round", (3, 4, [])),
    ("ew_count", (1000, 2147483647)), ("ew_count", (1000, 1)),
    ("ew_kth", (64, 20000)), ("ew_kth", (64, 30000)), ("ew_kth", (65, 0)),
    ("ew_last", (LONG,)), ("ew_last", ([7] * 512,)), ("ew_last", ([],)),
    ("ew_gaps", (1000000, 618033, 65536)), ("ew_gaps", (4, 2, 3)),
    ("ew_cut", (618033, 1000000)), ("ew_cut", (2, 4)), ("ew_cut", (4, 4)),
)


def answer_of(call, kind=list):
    name, given = call
    handed = [kind(value) if isinstance(value, list) else value for value in given]
    answer = getattr(desk, name)(*handed)
    return answer, handed


def in_a_new_python(code):
    run = subprocess.run(
        [sys.executable, "-B", "-S", "-c", code], cwd=TOP, env={"PYTHONPATH": str(TOP)}, capture_output=True, text=True,
    )
    return run.stdout, run.stderr, run.returncode


class Interface(unittest.TestCase):
    def test_each_call_and_its_arguments(self):
        for name, arguments in INTERFACE.items():
            given = inspect.signature(getattr(desk, name)).parameters
            self.assertEqual(list(given), arguments, name)
            for parameter in given.values():
                self.assertIs(parameter.default, parameter.empty, name)

    def test_no_other_call(self):
        self.assertEqual(sorted(name for name in vars(desk) if name.startswith("ew_")), sorted(INTERFACE))

    def test_every_argument_may_be_named(self):
        for name, given in CALLS:
            named = dict(zip(INTERFACE[name], given))
            self.assertEqual(getattr(desk, name)(**named), answer_of((name, given))[0])

    def test_nothing_else_is_imported_or_printed(self):
        code = (
            "import sys\n"
            "before = set(sys.modules)\n"
            "import evenwords.desk\n"
            "after = sorted(set(sys.modules) - before)\n"
            "assert after == ['evenwords', 'evenwords.desk'], after\n"
        )
        self.assertEqual(in_a_new_python(code), ("", "", 0))


class Calls(unittest.TestCase):
    def test_answers_are_lists_of_whole_numbers(self):
        for call in CALLS:
            answer, handed = answer_of(call)
            check_whole_numbers(self, answer)
            if answer[0] < 0:
                self.assertEqual(len(answer), 1)
                self.assertIn(answer[0], (-2, -3, -5))

    def test_nothing_handed_in_is_changed_or_given_back(self):
        for call in CALLS:
            answer, handed = answer_of(call, FrozenList)
            self.assertEqual(handed, list(call[1]))
            for value in handed:
                self.assertIsNot(answer, value)

    def test_calls_do_not_hang_on_one_another(self):
        alone = []
        for call in CALLS:
            answer, handed = answer_of(call)
            alone.append(list(answer))
            answer.clear()
        for i, call in enumerate(CALLS):
            for other in (CALLS[i - 1], CALLS[-i], call):
                answer_of(other)
                self.assertEqual(answer_of(call)[0], alone[i], call)

    def test_nothing_at_the_top_is_changed(self):
        before = {name: repr(value) for name, value in vars(desk).items() if not name.startswith("__")}
        for call in CALLS:
            answer_of(call)
        after = {name: repr(value) for name, value in vars(desk).items() if not name.startswith("__")}
        self.assertEqual(before, after)

    def test_calls_do_not_nest_deep(self):
        limit = sys.getrecursionlimit()
        sys.setrecursionlimit(len(inspect.stack()) + 30)
        try:
            answers = [answer_of(call)[0] for call in CALLS]
        finally:
            sys.setrecursionlimit(limit)
        self.assertEqual(answers, [answer_of(call)[0] for call in CALLS])

    def test_nothing_is_done_outside(self):
        with nothing_done_outside(self):
            for call in CALLS:
                answer_of(call)


class Readme(unittest.TestCase):
    def test_examples(self):
        text = (TOP / "README.md").read_text("utf-8")
        examples = re.findall(r"^(ew_\w+)(\(.*?\)) +# (\[.*?\])", text, re.MULTILINE)
        self.assertEqual({name for name, given, answer in examples}, set(INTERFACE))
        for name, given, answer in examples:
            self.assertEqual(eval(name + given, vars(desk).copy()), eval(answer), name)

    def test_every_call_is_in_the_table(self):
        text = (TOP / "README.md").read_text("utf-8")
        for name, arguments in INTERFACE.items():
            self.assertIn("| `" + name + "(" + ", ".join(arguments) + ")` |", text)


if __name__ == "__main__":
    unittest.main()
