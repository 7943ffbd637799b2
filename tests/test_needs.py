"""needs: what a `to` hangs on."""

import random
import unittest

from hubpanels.panels import judge, needs
from tests.helper import (
    BOXES, FAR, TAKERS, doubling_way, expected_needs, gathering_way, long_way, orders, panel, sender_with, some_panel,
    turning_way,
)


class OneWire(unittest.TestCase):
    def test_without_a_wire(self):
        for n in range(256):
            self.assertEqual(needs(n, []), [0])
            self.assertEqual(needs(n, panel(f"read 0 > to {255 - n}", "read 1 > one 0", "from 1 > split 5")), [0])

    def test_a_wire_from_send(self):
        for number in range(64):
            self.assertEqual(needs(7, panel(f"send {number} > to 7")), [0])

    def test_a_wire_from_every_column(self):
        for column in range(80):
            self.assertEqual(needs(7, panel(f"read {column} > to 7")), [0, column])

    def test_a_wire_from_every_from_hub(self):
        for hub in range(256):
            self.assertEqual(needs(7, panel(f"from {hub} > to 7")), [0, 80 + hub])

    def test_the_ends(self):
        text = panel("read 0 > to 0", "read 79 > to 1", "from 0 > to 2", "from 255 > to 255")
        self.assertEqual([needs(n, text) for n in (0, 1, 2, 3, 255)], [[0, 0], [0, 79], [0, 80], [0], [0, 335]])

    def test_every_to(self):
        text = panel(*[f"read {n % 80} > to {n}" for n in range(256)])
        for n in range(0, 256, 5):
            self.assertEqual(needs(n, text), [0, n % 80])


class ThroughBoxes(unittest.TestCase):
    def test_each_kind_by_each_hub_that_it_takes_by(self):
        for sends, takes in BOXES:
            for sender in sends:
                for taker in takes:
                    for k in (0, 9, 63):
                        way = f"{sender_with(sender, k)} > to 4"
                        self.assertEqual(needs(4, panel(f"read 5 > {taker} {k}", way)), [0, 5])
                        self.assertEqual(needs(4, panel(way, f"from 5 > {taker} {k}")), [0, 85])
                        self.assertEqual(needs(4, panel(f"send 5 > {taker} {k}", way)), [0])
                        self.assertEqual(needs(5, panel(f"read 5 > {taker} {k}", way)), [0])

    def test_no_hub_by_which_another_box_takes(self):
        for sends, takes in BOXES:
            for sender in sends:
                text = panel(f"{sender_with(sender, 9)} > to 4", *[f"read 5 > {taker} 8" for taker in TAKERS[1:]])
                self.assertEqual(needs(4, text), [0])
                text = panel(f"{sender_with(sender, 9)} > to 4",
                             *[f"read 5 > {taker} 9" for taker in TAKERS[1:] if taker not in takes])
                self.assertEqual(needs(4, text), [0])

    def test_every_hole_of_a_look(self):
        for row in range(12):
            self.assertEqual(needs(4, panel("read 5 > look 6", f"hole 6 {row} > to 4")), [0, 5])

    def test_by_plain_and_other_all(self):
        wires = ["read 3 > by 0", "read 2 > plain 0", "read 1 > other 0", "chosen 0 > to 0"]
        self.assertEqual(needs(0, panel(*wires)), [0, 1, 2, 3])
        self.assertEqual(needs(0, panel(*wires[1:])), [0, 1, 2])
        self.assertEqual(needs(0, panel(wires[0], *wires[2:])), [0, 1, 3])
        self.assertEqual(needs(0, panel(*wires[:2], wires[3])), [0, 2, 3])
        self.assertEqual(needs(0, panel("send 0 > by 0", *wires[1:])), [0, 1, 2])
        self.assertEqual(needs(0, panel("send 1 > by 0", *wires[1:])), [0, 1, 2])

    def test_rows_that_can_not_come_through_count_too(self):
        wires = ["read 3 > split 0", "upper 0 > split 1", "lower 1 > to 0"]
        self.assertEqual(needs(0, panel(*wires)), [0, 3])

    def test_a_box_without_a_wire(self):
        for sends, takes in BOXES:
            for sender in sends:
                self.assertEqual(needs(0, panel(f"{sender_with(sender, 3)} > to 0", "read 0 > to 1")), [0])


class ManyBoxes(unittest.TestCase):
    def in_all_orders(self, wires, n, answer):
        for other in orders(wires):
            self.assertEqual(needs(n, panel(*other)), answer)

    def test_many_boxes_in_a_row(self):
        self.in_all_orders(long_way(), 0, [0, 0])
        self.in_all_orders(["from 255" + long_way()[0][6:]] + long_way()[1:], 0, [0, 335])
        self.in_all_orders(long_way()[1:], 0, [0])

    def test_a_way_that_is_cut(self):
        wires = long_way()
        for place in range(256):
            self.assertEqual(needs(0, panel(*wires[:place], *wires[place + 1:])), [0])

    def test_boxes_that_turn(self):
        for n in (0, 1, 63):
            self.in_all_orders(turning_way(), n, [0, 0])
        self.in_all_orders(turning_way(), 64, [0])

    def test_what_leads_there_by_several_ways_is_told_once(self):
        self.in_all_orders(doubling_way(), 0, [0, 0, 1])
        wires = ["read 8 > by 0", "read 8 > plain 0", "read 8 > other 0", "chosen 0 > one 0", "read 8 > two 0",
                 "both 0 > to 0"]
        self.in_all_orders(wires, 0, [0, 8])
        self.in_all_orders([wire.replace("read", "from") for wire in wires], 0, [0, 88])

    def test_only_what_leads_there(self):
        for n in range(12):
            self.in_all_orders(gathering_way(), n, [0] + list(range(n + 1)))

    def test_columns_ahead_of_from_hubs_rising(self):
        wires = ["from 0 > one 0", "read 79 > two 0", "both 0 > by 1", "from 255 > plain 1", "read 0 > other 1",
                 "chosen 1 > one 2", "from 79 > two 2", "both 2 > one 3", "read 10 > two 3", "both 3 > one 4",
                 "read 9 > two 4", "both 4 > one 5", "from 9 > two 5", "both 5 > one 6", "from 10 > two 6",
                 "both 6 > to 0"]
        self.in_all_orders(wires, 0, [0, 0, 9, 10, 79, 80, 89, 90, 159, 335])

    def test_a_column_and_a_from_hub_of_one_number(self):
        self.assertEqual(needs(0, panel("from 7 > one 0", "read 7 > two 0", "both 0 > to 0")), [0, 7, 87])

    def test_all_there_are(self):
        columns = [f"read {k} > by {k}" for k in range(63)] + [f"chosen {k} > plain {k + 1}" for k in range(62)]
        text = panel(*columns, "chosen 62 > to 9")
        self.assertEqual(needs(9, text), [0] + list(range(63)))
        text = panel(*[wire.replace("read ", "from 1") for wire in columns], "chosen 62 > to 9")
        hubs = sorted(80 + int(f"1{k}") for k in range(63))
        self.assertEqual(needs(9, text), [0] + hubs)


class Refusals(unittest.TestCase):
    text = panel("read 3 > to 0", "from 3 > to 255")
    no_to = (-1, -2, 256, 257, 335, -255, FAR, -FAR, 2 ** 32, 2 ** 63)

    def test_the_ends_of_n(self):
        self.assertEqual(needs(0, self.text), [0, 3])
        self.assertEqual(needs(255, self.text), [0, 83])
        for text in ([], self.text):
            for n in self.no_to:
                self.assertEqual(needs(n, text), [-4], n)
            for n in range(1, 255):
                self.assertEqual(needs(n, text), [0], n)

    def test_too_long_before_all(self):
        for text in ([10] * 16385, self.text * 1000, [0] * 65536):
            for n in (0, 255) + self.no_to:
                self.assertEqual(needs(n, text), [-1])

    def test_a_fault_before_no_such_hub(self):
        for text, answer in (
            ([10], [-6, 1, 0, 0]),
            (self.text[:-1], [-6, 1, 1, 15]),
            (panel(*[f"read 0 > to {n}" for n in range(256)], ""), [-6, 2, 256, 0]),
            (panel("read 0 > to 0", "read 1 > to 0"), [-6, 3, 1, 0]),
            (panel("chosen 0 > by 0"), [-6, 4, 0, 0]),
            ([97] * 16384, [-6, 1, 0, 0]),
        ):
            for n in (0, 255) + self.no_to:
                self.assertEqual(needs(n, text), answer)


class SecondReading(unittest.TestCase):
    def test_panels_by_chance(self):
        several = 0
        for seed in range(60):
            chance = random.Random(seed)
            wires = some_panel(chance, chance.choice((1, 2, 4, 8, 30)), chance.choice((0.1, 0.2, 0.4)))
            text = panel(*wires)
            self.assertEqual(judge(text), [len(wires)])
            ends = [int(wire.split(" > to ")[1]) for wire in wires if " > to " in wire]
            for n in chance.sample(ends, min(6, len(ends))) + [chance.randrange(-2, 259)]:
                answer = needs(n, text)
                self.assertEqual(answer, expected_needs(n, text))
                several += len(answer) > 3
        # Else the panels would be too plain to tell a wrong answer from a right one.
        self.assertGreater(several, 40)


if __name__ == "__main__":
    unittest.main()
