"""What several test files need."""

import builtins
import contextlib
import io
from unittest import mock

LEAST = -2147483648
MOST = 2147483647


class FrozenList(list):
    """A list that fails as soon as somebody tries to change it."""

    def refuse(self, *args, **kwargs):
        raise AssertionError("the list that was handed in is changed")

    __setitem__ = __delitem__ = __iadd__ = __imul__ = refuse
    append = clear = extend = insert = pop = remove = reverse = sort = refuse


def check_whole_numbers(case, answer):
    """A list of ints, with no True or False among them."""
    case.assertIs(type(answer), list)
    case.assertTrue(answer)
    for number in answer:
        case.assertIs(type(number), int)


@contextlib.contextmanager
def nothing_done_outside(case):
    """Within this, an import, a file opened or anything printed or read is a failure."""

    def refuse(*args, **kwargs):
        raise AssertionError("something outside is used")

    out, err = io.StringIO(), io.StringIO()
    names = ("__import__", "open", "input", "print", "eval", "exec", "compile")
    with contextlib.ExitStack() as stack:
        stack.enter_context(contextlib.redirect_stdout(out))
        stack.enter_context(contextlib.redirect_stderr(err))
        stack.enter_context(mock.patch("sys.stdin", None))
        for name in names:
            stack.enter_context(mock.patch.object(builtins, name, refuse))
        yield
    case.assertEqual(out.getvalue() + err.getvalue(), "")
