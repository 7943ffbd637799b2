"""Boxes behind boxes, many in a row, with their wires in many orders; P1: one state in whatever order they stand."""

import random
import unittest

from hubpanels.panels import judge, run
from tests.helper import panel


def long_way():
    """256 wires through 255 boxes, each of which sends row 0 to the next."""
    boxes = []
    for k in range(64):
        boxes += [(f"split {k}", f"upper {k}"), (f"look {k}", f"hole {k} 0")]
        boxes += [(f"plain {k}", f"chosen {k}"), (f"one {k}", f"both {k}")]
    boxes.pop()
    senders = ["read 0"] + [sends for takes, sends in boxes]
    takers = [takes for takes, sends in boxes] + ["to 0"]
    return [f"{sender} > {taker}" for sender, taker in zip(senders, takers)]


def turning_way():
    """Each box sends the figure 0 if the one before it sends nothing, else nothing; each is told."""
    wires = ["read 0 > by 0"]
    for k in range(64):
        wires += [f"send 48 > plain {k}", f"chosen {k} > to {k}"]
        if k < 63:
            wires.append(f"chosen {k} > by {k + 1}")
    return wires


def doubling_way():
    """Twice as many ways behind each box as before it."""
    wires = ["read 0 > one 0", "read 1 > two 0", "both 63 > to 0"]
    for k in range(63):
        wires += [f"both {k} > one {k + 1}", f"both {k} > two {k + 1}"]
    return wires


def gathering_way():
    """Each box adds one more of the first twelve columns to what came before it."""
    wires = [f"read {k} > one {k}" for k in range(12)]
    wires += [f"both {k} > two {k + 1}" for k in range(11)] + [f"both {k} > to {k}" for k in range(12)]
    return wires


def orders(wires):
    middle = len(wires) // 2
    given = [wires, wires[::-1], wires[::2] + wires[1::2], wires[1::2] + wires[::2], wires[middle:] + wires[:middle]]
    given += [wires[:middle][::-1] + wires[middle:], sorted(wires), sorted(wires, reverse=True)]
    for seed in range(20):
        other = list(wires)
        random.Random(seed).shuffle(other)
        given.append(other)
    return given


class LongWays(unittest.TestCase):
    def same_in_all_orders(self, wires, card, sending, answer):
        for other in orders(wires):
            text = panel(*other)
            self.assertEqual(judge(text), [len(wires)])
            self.assertEqual(run(text, card, sending), answer)

    def test_256_wires_each_box_sending_to_the_next(self):
        self.assertEqual(len(long_way()), 256)
        self.same_in_all_orders(long_way(), [0, 4095], [], [0, 0, 1])
        self.same_in_all_orders(long_way(), [0, 4094], [], [0])
        self.same_in_all_orders(long_way(), [], [], [0])

    def test_a_long_way_that_is_cut_carries_nothing(self):
        wires = long_way()
        for place in range(256):
            self.assertEqual(run(panel(*wires[:place], *wires[place + 1:]), [0, 4095], []), [0])

    def test_boxes_that_turn_what_comes(self):
        with_hole = [0] + [number for k in range(1, 64, 2) for number in (k, 4)]
        without = [0] + [number for k in range(0, 64, 2) for number in (k, 4)]
        self.same_in_all_orders(turning_way(), [0, 1], [], with_hole)
        self.same_in_all_orders(turning_way(), [], [], without)

    def test_many_ways_to_one_hub(self):
        self.same_in_all_orders(doubling_way(), [0, 1, 1, 2048], [], [0, 0, 2049])
        self.same_in_all_orders(doubling_way(), [], [], [0])

    def test_boxes_that_gather(self):
        card = [number for k in range(12) for number in (k, 2 ** k)]
        answer = [0] + [number for k in range(12) for number in (k, 2 ** (k + 1) - 1)]
        self.same_in_all_orders(gathering_way(), card, [], answer)


if __name__ == "__main__":
    unittest.main()
