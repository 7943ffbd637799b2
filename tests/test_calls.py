"""What holds of every call: nothing handed in is changed, nothing is kept, printed, read or imported."""

import builtins
import contextlib
import copy
import inspect
import io
import sys
import unittest
from unittest import mock

from hubpanels import panels
from hubpanels.panels import judge, needs, run, state
from tests.helper import as_text, panel

FULL_TEXT = panel(*[f"read 0 > to {n}" for n in range(256)])
BOXES_TEXT = panel(
    "both 0 > to 9", "chosen 3 > one 0", "read 4 > by 3", "from 7 > other 3", "send 1 > plain 3", "from 8 > two 0",
)
CARD = [0, 1, 4, 2]
SENDING = [7, 3, 8, 4, 255, 4095]
LONG_ROW = [10 ** 18, -10 ** 18] * 8000

# What is called, what is handed in, what is answered.
CALLS = (
    (judge, ([],), [0]),
    (judge, (panel("read 0 > to 0", "both 0 > one 1"),), [2]),
    (judge, (panel("read 0 > to 0", "read 0 > to 0"),), [-6, 3, 1, 0]),
    (judge, (panel("both 1 > one 0", "both 0 > one 1"),), [-6, 4, 1, 0]),
    (judge, (as_text("read 0 > to 0"),), [-6, 1, 0, 13]),
    (judge, (FULL_TEXT,), [256]),
    (judge, (FULL_TEXT + [10],), [-6, 2, 256, 0]),
    (judge, ([255] * 16385,), [-1]),
    (judge, ([10] * 65536,), [-1]),
    (run, ([], [], []), [0]),
    (run, (BOXES_TEXT, CARD, SENDING), [0, 9, 7]),
    (run, (BOXES_TEXT, CARD[:2], SENDING), [0, 9, 12]),
    (run, (BOXES_TEXT, [], []), [0, 9, 8]),
    (run, (BOXES_TEXT, CARD[:3], SENDING), [-8]),
    (run, (BOXES_TEXT, CARD, SENDING[::-1]), [-8]),
    (run, (BOXES_TEXT, LONG_ROW, LONG_ROW), [-8]),
    (run, (BOXES_TEXT[:-1], CARD, SENDING), [-6, 1, 5, 14]),
    (run, ([10] * 65536, LONG_ROW, LONG_ROW), [-1]),
    (run, (FULL_TEXT, CARD, SENDING), [0] + [number for n in range(256) for number in (n, 1)]),
    (state, (0, 9, BOXES_TEXT, CARD, SENDING), [7]),
    (state, (3, 3, BOXES_TEXT, CARD, SENDING), [2]),
    (state, (3, 3, BOXES_TEXT, [], SENDING), [0]),
    (state, (7, 63, BOXES_TEXT, CARD, SENDING), [0]),
    (state, (7, 64, BOXES_TEXT, CARD, SENDING), [-4]),
    (state, (10 ** 18, -10 ** 18, BOXES_TEXT, CARD, SENDING), [-4]),
    (state, (7, 64, BOXES_TEXT, CARD[1:], SENDING), [-8]),
    (state, (7, 64, BOXES_TEXT[1:], LONG_ROW, LONG_ROW), [-6, 1, 0, 0]),
    (state, (7, 64, [0] * 65536, LONG_ROW, LONG_ROW), [-1]),
    (needs, (9, BOXES_TEXT), [0, 4, 87, 88]),
    (needs, (8, BOXES_TEXT), [0]),
    (needs, (255, FULL_TEXT), [0, 0]),
    (needs, (256, BOXES_TEXT), [-4]),
    (needs, (-10 ** 18, []), [-4]),
    (needs, (256, BOXES_TEXT[:-1]), [-6, 1, 5, 14]),
    (needs, (10 ** 18, [10] * 65536), [-1]),
)
ARGUMENTS = (
    (judge, ["text"]),
    (run, ["text", "card", "sending"]),
    (state, ["into", "k", "text", "card", "sending"]),
    (needs, ["n", "text"]),
)


def handed_in(given, as_list):
    """What is handed in, its lists made anew."""
    return tuple(as_list(value) if isinstance(value, list) else value for value in given)


def refuse(*given):
    raise AssertionError("the list that was handed in is changed")


class Unchangeable(list):
    """A list that fails on every change, so one for a while is seen too."""

    __setitem__ = __delitem__ = __iadd__ = __imul__ = refuse
    append = extend = insert = pop = remove = clear = reverse = sort = refuse


class Calls(unittest.TestCase):
    def test_the_arguments_and_their_names(self):
        for call, names in ARGUMENTS:
            self.assertEqual(list(inspect.signature(call).parameters), names)
        for call, given, answer in CALLS:
            self.assertEqual(call(**dict(zip(dict(ARGUMENTS)[call], given))), answer)

    def test_what_is_handed_in_stays_as_it_was(self):
        for call, given, answer in CALLS:
            handed = handed_in(given, list)
            self.assertEqual(call(*handed), answer)
            self.assertEqual(handed, given)

    def test_what_is_handed_in_is_not_changed_for_a_while(self):
        for call, given, answer in CALLS:
            self.assertEqual(call(*handed_in(given, Unchangeable)), answer)

    def test_a_second_call_answers_as_the_first(self):
        for call, given, answer in CALLS:
            self.assertEqual(call(*given), answer)
            for later, its, told in CALLS:
                self.assertEqual(later(*its), told)
            self.assertEqual(call(*given), answer)

    def test_an_answer_that_is_changed_changes_no_later_one(self):
        for call, given, answer in CALLS:
            call(*given).append(7)
            call(*given).clear()
            self.assertEqual(call(*given), answer)

    def test_one_list_may_be_handed_in_twice(self):
        row = [0, 1, 5, 2]
        text = panel("read 5 > to 0", "from 0 > to 1")
        self.assertEqual(run(text, row, row), [0, 0, 2, 1, 1])
        self.assertEqual(row, [0, 1, 5, 2])

    def test_an_answer_is_none_of_the_lists_handed_in(self):
        for call, given, answer in CALLS:
            told = call(*given)
            self.assertFalse(any(told is value for value in given))

    def test_answers_are_lists_of_whole_numbers(self):
        for call, given, answer in CALLS:
            told = call(*given)
            self.assertIs(type(told), list)
            self.assertTrue(all(type(number) is int for number in told))

    def test_the_module_keeps_nothing(self):
        def values():
            return {name: value for name, value in vars(panels).items()
                    if isinstance(value, (int, str, tuple, list, dict)) and not name.startswith("__")}

        before = copy.deepcopy(values())
        for call, given, answer in CALLS:
            call(*given)
        self.assertEqual(values(), before)

    def test_nothing_is_printed_read_or_imported(self):
        printed = io.StringIO()
        complained = io.StringIO()
        loaded = dict(sys.modules)
        with contextlib.redirect_stdout(printed), contextlib.redirect_stderr(complained), \
                mock.patch.object(builtins, "open", side_effect=AssertionError("a file is read")), \
                mock.patch.object(builtins, "input", side_effect=AssertionError("input is read")), \
                mock.patch.object(builtins, "__import__", side_effect=AssertionError("something is imported")):
            answers = [call(*given) for call, given, answer in CALLS]
        self.assertEqual(answers, [answer for call, given, answer in CALLS])
        self.assertEqual(printed.getvalue() + complained.getvalue(), "")
        self.assertEqual(dict(sys.modules), loaded)


class Depth(unittest.TestCase):
    ladder = [f"both {n} > one {n + 1}" for n in range(63)] + [f"chosen {n} > plain {n + 1}" for n in range(63)]
    ladder += [f"upper {n} > split {n + 1}" for n in range(63)] + [f"hole {n} 0 > look {n + 1}" for n in range(63)]
    ladder += ["both 63 > plain 0", "chosen 63 > split 0", "upper 63 > look 0"]
    ladder.reverse()

    def with_few_calls(self, *calls):
        old = sys.getrecursionlimit()
        sys.setrecursionlimit(len(inspect.stack(0)) + 40)
        try:
            return [call() for call in calls]
        finally:
            sys.setrecursionlimit(old)

    def test_judge(self):
        answers = self.with_few_calls(
            lambda: judge(panel(*self.ladder)),
            lambda: judge(panel(*self.ladder, "hole 63 0 > two 0")),
            lambda: judge([97] * 16384),
        )
        self.assertEqual(answers, [[255], [-6, 4, 255, 0], [-6, 1, 0, 0]])

    def test_run_state_and_needs(self):
        text = panel("hole 62 0 > to 0", *[wire for wire in self.ladder if "look 63" not in wire], "read 0 > one 0")
        answers = self.with_few_calls(
            lambda: judge(text),
            lambda: run(text, [0, 4095], []),
            lambda: run(text, LONG_ROW, LONG_ROW),
            lambda: state(2, 62, text, [0, 4095], []),
            lambda: state(2, 62, text, LONG_ROW, LONG_ROW),
            lambda: needs(0, text),
        )
        self.assertEqual(answers, [[256], [0, 0, 1], [-8], [1], [-8], [0, 0]])


if __name__ == "__main__":
    unittest.main()
