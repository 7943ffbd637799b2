"""Faults of kinds 3 and 4: a second wire to a hub, a round; and which fault comes first."""

import random
import unittest

from hubpanels.panels import judge
from tests.helper import BOXES, LAST_NUMBERS, TAKERS, as_text, panel, sender_with


def ring(boxes):
    """Wires by which each of the boxes sends to the next one, the last to the first.

    A box: what it sends by, what it takes by, its number.
    """
    wires = []
    for place, box in enumerate(boxes):
        follower = boxes[(place + 1) % len(boxes)]
        wires.append(f"{sender_with(box[0], box[2])} > {follower[1]} {follower[2]}")
    return wires


def box_ways():
    """Every hub that a box sends by with every hub that it takes by."""
    return [(send, take) for sends, takes in BOXES for send in sends for take in takes]


class SecondWire(unittest.TestCase):
    def test_every_kind_of_hub(self):
        for word in TAKERS:
            for number in (0, LAST_NUMBERS[word][0]):
                hub = f"{word} {number}"
                text = panel(f"read 0 > {hub}", f"send 5 > {hub}")
                self.assertEqual(judge(text), [-6, 3, 1, 0], hub)

    def test_the_same_wire_twice(self):
        self.assertEqual(judge(panel("read 0 > to 0", "read 0 > to 0")), [-6, 3, 1, 0])

    def test_it_is_named_by_the_later_wire(self):
        text = panel("read 0 > to 0", "read 1 > to 1", "read 2 > to 2", "read 3 > to 1", "read 4 > to 4")
        self.assertEqual(judge(text), [-6, 3, 3, 0])

    def test_the_first_of_several(self):
        text = panel("read 0 > to 0", "read 1 > to 1", "read 2 > to 1", "read 3 > to 0")
        self.assertEqual(judge(text), [-6, 3, 2, 0])

    def test_the_last_of_256_wires(self):
        wires = [f"read 0 > to {n}" for n in range(255)]
        self.assertEqual(judge(panel(*wires, "read 0 > to 0")), [-6, 3, 255, 0])

    def test_hubs_that_look_alike_are_not_the_same(self):
        text = panel("read 0 > to 1", "read 0 > to 11", "read 0 > two 1", "read 0 > one 1", "read 0 > one 11")
        self.assertEqual(judge(text), [5])


class Round(unittest.TestCase):
    def test_one_box_by_itself(self):
        for send, take in box_ways():
            for number in (0, 63):
                wire = ring([(send, take, number)])
                self.assertEqual(judge(panel(*wire)), [-6, 4, 0, 0], wire)

    def test_every_hole_of_a_look_box(self):
        for row in range(12):
            self.assertEqual(judge(panel(f"hole 4 {row} > look 4")), [-6, 4, 0, 0])

    def test_another_number_is_another_box(self):
        for send, take in box_ways():
            text = panel(f"{sender_with(send, 6)} > {take} 7")
            self.assertEqual(judge(text), [1])

    def test_another_kind_is_another_box(self):
        text = panel("upper 1 > look 1", "hole 1 3 > by 1", "chosen 1 > one 1", "both 1 > to 1")
        self.assertEqual(judge(text), [4])

    def test_two_boxes(self):
        for first in box_ways():
            for second in box_ways():
                wires = ring([first + (1,), second + (2,)])
                self.assertEqual(judge(panel(*wires)), [-6, 4, 1, 0], wires)
                self.assertEqual(judge(panel(*reversed(wires))), [-6, 4, 1, 0], wires)

    def test_many_boxes_in_whatever_order(self):
        ways = box_ways()
        for seed in range(40):
            chance = random.Random(seed)
            boxes = [chance.choice(ways) + (number,) for number in range(chance.randint(3, 64))]
            wires = ring(boxes)
            chance.shuffle(wires)
            self.assertEqual(judge(panel(*wires)), [-6, 4, len(wires) - 1, 0], wires)
            self.assertEqual(judge(panel(*wires[:-1])), [len(wires) - 1])
            self.assertEqual(judge(panel(*wires[1:])), [len(wires) - 1])

    def test_all_the_boxes_there_are(self):
        boxes = [way + (number,) for way in (box_ways()[0], box_ways()[2], box_ways()[4], box_ways()[7])
                 for number in range(64)]
        wires = ring(boxes)
        self.assertEqual(len(wires), 256)
        self.assertEqual(judge(panel(*wires)), [-6, 4, 255, 0])
        self.assertEqual(judge(panel(*reversed(wires))), [-6, 4, 255, 0])
        self.assertEqual(judge(panel(*wires[:-1], "both 63 > to 0")), [256])

    def test_the_closing_wire_wherever_it_stands(self):
        others = [f"read {n} > to {n}" for n in range(20)]
        first = "both 0 > by 0"
        closing = "chosen 0 > two 0"
        for place in range(20):
            wires = [first] + others[:place] + [closing] + others[place:]
            self.assertEqual(judge(panel(*wires)), [-6, 4, place + 1, 0])

    def test_each_hub_that_a_box_takes_by_counts(self):
        for take in ("by", "plain", "other"):
            text = panel("read 0 > " + ("plain 0" if take == "by" else "by 0"),
                         f"both 0 > {take} 0", "chosen 0 > one 0")
            self.assertEqual(judge(text), [-6, 4, 2, 0], take)

    def test_through_another_hub_than_it_takes_by_first(self):
        text = panel("upper 0 > one 0", "both 0 > look 0", "hole 0 5 > two 1", "both 1 > split 0")
        self.assertEqual(judge(text), [-6, 4, 3, 0])

    def test_boxes_that_only_meet_again(self):
        self.assertEqual(judge(panel("upper 0 > one 0", "lower 0 > two 0", "both 0 > to 0")), [3])
        self.assertEqual(judge(panel("chosen 1 > by 0", "chosen 1 > plain 0", "chosen 1 > other 0")), [3])
        text = panel("both 0 > split 0", "both 0 > look 0", "upper 0 > one 1", "hole 0 0 > two 1",
                     "both 0 > by 0", "both 1 > plain 0", "lower 0 > other 0", "chosen 0 > to 0")
        self.assertEqual(judge(text), [8])

    def test_a_ladder_of_boxes_that_meet_again_and_again(self):
        wires = []
        for number in range(63):
            wires += [f"both {number} > one {number + 1}", f"both {number} > two {number + 1}"]
        self.assertEqual(judge(panel(*wires)), [126])
        self.assertEqual(judge(panel(*wires, "both 63 > one 0")), [-6, 4, 126, 0])
        # From its foot the ladder has more ways up than could be gone one by one.
        self.assertEqual(judge(panel(*reversed(wires), "chosen 0 > one 0")), [127])
        self.assertEqual(judge(panel(*reversed(wires), "both 63 > by 0", "chosen 0 > two 0")), [-6, 4, 127, 0])

    def test_the_machine_is_no_box(self):
        self.assertEqual(judge(panel("from 0 > to 0", "from 0 > split 0", "upper 0 > to 1")), [3])

    def test_the_first_round_of_several(self):
        text = panel("both 0 > one 1", "both 2 > one 3", "both 3 > one 2", "both 1 > one 0")
        self.assertEqual(judge(text), [-6, 4, 2, 0])


class WhichComesFirst(unittest.TestCase):
    def test_of_one_wire_the_second_wire_before_the_round(self):
        self.assertEqual(judge(panel("read 0 > split 0", "upper 0 > split 0")), [-6, 3, 1, 0])
        text = panel("read 0 > one 0", "both 0 > look 1", "hole 1 1 > one 0")
        self.assertEqual(judge(text), [-6, 3, 2, 0])

    def test_the_first_wire_that_has_either(self):
        text = panel("read 0 > to 0", "both 0 > one 0", "read 1 > to 0")
        self.assertEqual(judge(text), [-6, 4, 1, 0])
        text = panel("read 0 > to 0", "read 1 > to 0", "both 0 > one 0")
        self.assertEqual(judge(text), [-6, 3, 1, 0])

    def test_what_is_no_line_before_both_on_whatever_line(self):
        for faulty in (["read 0 > to 0", "read 1 > to 0"], ["both 0 > one 0", "both 0 > two 0"]):
            text = panel(*faulty)
            self.assertEqual(judge(text + as_text("x")), [-6, 1, 2, 0])
            self.assertEqual(judge(text + as_text("\n")), [-6, 1, 2, 0])
            self.assertEqual(judge(text + as_text("read 1 > to 1")), [-6, 1, 2, 13])
            self.assertEqual(judge(as_text("read\n") + text), [-6, 1, 0, 4])

    def test_a_line_too_many_before_both(self):
        self.assertEqual(judge(panel(*["read 0 > to 0"] * 257)), [-6, 2, 256, 0])
        self.assertEqual(judge(panel(*["both 0 > one 0"] * 257)), [-6, 2, 256, 0])
        self.assertEqual(judge(panel(*["both 0 > one 0"] * 256)), [-6, 4, 0, 0])
        self.assertEqual(judge(panel(*["read 0 > to 0"] * 256)), [-6, 3, 1, 0])


if __name__ == "__main__":
    unittest.main()
