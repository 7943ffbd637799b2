"""What holds of every call: nothing handed in is changed, nothing is kept, printed, read or imported."""

import builtins
import contextlib
import copy
import inspect
import io
import sys
import unittest
from unittest import mock

from hubpanels import panels
from hubpanels.panels import judge
from tests.helper import as_text, panel

TEXTS = (
    [],
    panel("read 0 > to 0", "both 0 > one 1"),
    panel("read 0 > to 0", "read 0 > to 0"),
    panel("both 1 > one 0", "both 0 > one 1"),
    as_text("read 0 > to 0"),
    panel(*[f"read 0 > to {n}" for n in range(256)]),
    panel(*[f"read 0 > to {n}" for n in range(256)], ""),
    [255] * 16385,
    [10] * 65536,
)
ANSWERS = (
    [0], [2], [-6, 3, 1, 0], [-6, 4, 1, 0], [-6, 1, 0, 13], [256], [-6, 2, 256, 0], [-1], [-1],
)


def refuse(*given):
    raise AssertionError("the list that was handed in is changed")


class Unchangeable(list):
    """A list that fails on every change, so one for a while is seen too."""

    __setitem__ = __delitem__ = __iadd__ = __imul__ = refuse
    append = extend = insert = pop = remove = clear = reverse = sort = refuse


class Calls(unittest.TestCase):
    def test_its_one_argument_is_called_text(self):
        self.assertEqual(list(inspect.signature(judge).parameters), ["text"])
        self.assertEqual(judge(text=panel("read 0 > to 0")), [1])

    def test_what_is_handed_in_stays_as_it_was(self):
        for text, answer in zip(TEXTS, ANSWERS):
            handed = list(text)
            self.assertEqual(judge(handed), answer)
            self.assertEqual(handed, text)

    def test_what_is_handed_in_is_not_changed_for_a_while(self):
        for text, answer in zip(TEXTS, ANSWERS):
            self.assertEqual(judge(Unchangeable(text)), answer)

    def test_a_second_call_answers_as_the_first(self):
        for first in range(len(TEXTS)):
            for second in range(len(TEXTS)):
                self.assertEqual(judge(TEXTS[first]), ANSWERS[first])
                self.assertEqual(judge(TEXTS[second]), ANSWERS[second])

    def test_an_answer_that_is_changed_changes_no_later_one(self):
        for text, answer in zip(TEXTS, ANSWERS):
            judge(text).append(7)
            judge(text).clear()
            self.assertEqual(judge(text), answer)

    def test_the_module_keeps_nothing(self):
        def values():
            return {name: value for name, value in vars(panels).items()
                    if isinstance(value, (int, str, tuple, list, dict)) and not name.startswith("__")}

        before = copy.deepcopy(values())
        for text in TEXTS:
            judge(text)
        self.assertEqual(values(), before)

    def test_nothing_is_printed_read_or_imported(self):
        printed = io.StringIO()
        complained = io.StringIO()
        loaded = dict(sys.modules)
        with contextlib.redirect_stdout(printed), contextlib.redirect_stderr(complained), \
                mock.patch.object(builtins, "open", side_effect=AssertionError("a file is read")), \
                mock.patch.object(builtins, "input", side_effect=AssertionError("input is read")), \
                mock.patch.object(builtins, "__import__", side_effect=AssertionError("something is imported")):
            answers = tuple(judge(text) for text in TEXTS)
        self.assertEqual(answers, ANSWERS)
        self.assertEqual(printed.getvalue() + complained.getvalue(), "")
        self.assertEqual(dict(sys.modules), loaded)

    def test_few_calls_within_one_another(self):
        ladder = [f"both {n} > one {n + 1}" for n in range(63)] + [f"chosen {n} > by {n + 1}" for n in range(63)]
        ladder += [f"upper {n} > split {n + 1}" for n in range(63)] + [f"hole {n} 0 > look {n + 1}" for n in range(63)]
        ladder += ["both 63 > by 0", "chosen 63 > split 0", "lower 63 > look 0"]
        ladder.reverse()
        old = sys.getrecursionlimit()
        depth = len(inspect.stack(0))
        sys.setrecursionlimit(depth + 40)
        try:
            answers = [judge(panel(*ladder)), judge(panel(*ladder, "hole 63 0 > two 0")), judge([97] * 16384)]
        finally:
            sys.setrecursionlimit(old)
        self.assertEqual(answers, [[255], [-6, 4, 255, 0], [-6, 1, 0, 0]])


if __name__ == "__main__":
    unittest.main()
