"""Refusal -1: a text longer than 16,384 bytes."""

import unittest

from hubpanels.panels import judge
from tests.helper import as_text, panel


class Length(unittest.TestCase):
    def test_the_longest_text_is_judged_by_its_lines(self):
        self.assertEqual(judge([10] * 16384), [-6, 1, 0, 0])
        wire = panel("read 0 > to 0")
        self.assertEqual(judge(wire + [97] * (16384 - len(wire))), [-6, 1, 1, 0])

    def test_the_longest_text_may_have_too_many_lines(self):
        text = panel(*[f"read 0 > to {n}" for n in range(256)])
        self.assertEqual(judge(text + [0] * (16384 - len(text))), [-6, 2, 256, 0])

    def test_one_byte_more_is_refused(self):
        self.assertEqual(judge([97] * 16385), [-1])

    def test_too_long_comes_before_every_kind_of_fault(self):
        beginnings = (
            as_text("\n"),
            panel(*[f"read 0 > to {n}" for n in range(256)]),
            panel("read 0 > to 0", "read 0 > to 0"),
            panel("both 0 > one 0"),
        )
        for text in beginnings:
            self.assertEqual(judge(text + [10] * (16385 - len(text))), [-1])

    def test_lines_over_and_over(self):
        lines = panel("read 0 > to 0") * 1171
        self.assertEqual(judge(lines[:16384]), [-6, 2, 256, 0])
        self.assertEqual(judge(lines[:16385]), [-1])

    def test_the_longest_that_may_be_handed_in(self):
        for byte in (0, 10, 32, 114, 255):
            self.assertEqual(judge([byte] * 65536), [-1])
        self.assertEqual(judge((panel("read 0 > to 0") * 5000)[:65536]), [-1])


if __name__ == "__main__":
    unittest.main()
