"""Panels that are taken: how many wires they have."""

import unittest

from hubpanels.panels import judge
from tests.helper import SENDERS, TAKERS, as_text, hubs_of, panel


class Taken(unittest.TestCase):
    def test_a_text_without_any_line_has_no_wires(self):
        self.assertEqual(judge([]), [0])

    def test_one_wire(self):
        self.assertEqual(judge(as_text("read 0 > to 0\n")), [1])

    def test_every_hub_that_sends(self):
        for word in SENDERS:
            for hub in hubs_of(word):
                self.assertEqual(judge(panel(f"{hub} > to 7")), [1], hub)

    def test_every_hub_that_takes(self):
        for word in TAKERS:
            for hub in hubs_of(word):
                self.assertEqual(judge(panel(f"read 7 > {hub}")), [1], hub)

    def test_every_kind_that_sends_to_every_kind_that_takes(self):
        for sending in SENDERS:
            for taking in TAKERS:
                wire = f"{hubs_of(sending)[-1]} > {hubs_of(taking)[0]}"
                self.assertEqual(judge(panel(wire)), [1], wire)

    def test_several_wires(self):
        text = panel(
            "read 79 > split 63", "upper 63 > look 0", "lower 63 > by 5", "hole 0 11 > plain 5",
            "send 63 > other 5", "chosen 5 > one 0", "from 255 > two 0", "both 0 > to 255",
        )
        self.assertEqual(judge(text), [8])

    def test_one_hub_may_send_by_many_wires(self):
        self.assertEqual(judge(panel(*[f"read 3 > to {n}" for n in range(256)])), [256])

    def test_a_box_may_send_without_getting(self):
        self.assertEqual(judge(panel("both 9 > to 1", "chosen 9 > to 2")), [2])

    def test_hubs_of_one_number_and_other_words_are_others(self):
        text = panel(*[f"read 1 > {word} 1" for word in TAKERS])
        self.assertEqual(judge(text), [8])


if __name__ == "__main__":
    unittest.main()
