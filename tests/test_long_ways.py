"""Boxes behind boxes, many in a row, with their wires in many orders; P1: one state in whatever order they stand."""

import unittest

from hubpanels.panels import judge, run
from tests.helper import doubling_way, gathering_way, long_way, orders, panel, turning_way


class LongWays(unittest.TestCase):
    def same_in_all_orders(self, wires, card, sending, answer):
        for other in orders(wires):
            text = panel(*other)
            self.assertEqual(judge(text), [len(wires)])
            self.assertEqual(run(text, card, sending), answer)

    def test_256_wires_each_box_sending_to_the_next(self):
        self.assertEqual(len(long_way()), 256)
        self.same_in_all_orders(long_way(), [0, 4095], [], [0, 0, 1])
        self.same_in_all_orders(long_way(), [0, 4094], [], [0])
        self.same_in_all_orders(long_way(), [], [], [0])

    def test_a_long_way_that_is_cut_carries_nothing(self):
        wires = long_way()
        for place in range(256):
            self.assertEqual(run(panel(*wires[:place], *wires[place + 1:]), [0, 4095], []), [0])

    def test_boxes_that_turn_what_comes(self):
        with_hole = [0] + [number for k in range(1, 64, 2) for number in (k, 4)]
        without = [0] + [number for k in range(0, 64, 2) for number in (k, 4)]
        self.same_in_all_orders(turning_way(), [0, 1], [], with_hole)
        self.same_in_all_orders(turning_way(), [], [], without)

    def test_many_ways_to_one_hub(self):
        self.same_in_all_orders(doubling_way(), [0, 1, 1, 2048], [], [0, 0, 2049])
        self.same_in_all_orders(doubling_way(), [], [], [0])

    def test_boxes_that_gather(self):
        card = [number for k in range(12) for number in (k, 2 ** k)]
        answer = [0] + [number for k in range(12) for number in (k, 2 ** (k + 1) - 1)]
        self.same_in_all_orders(gathering_way(), card, [], answer)


if __name__ == "__main__":
    unittest.main()
