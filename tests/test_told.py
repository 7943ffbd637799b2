"""Cards, and what the machine sends: what is one's numbers, and what is refused -8."""

import unittest

from hubpanels.panels import run
from tests.helper import EITHER, FAR, FULL_CARD, FULL_SENDING, NEITHER, NO_CARD, panel

TEXT = panel("read 0 > to 0", "from 0 > to 1", "send 1 > to 2")


class Told(unittest.TestCase):
    def test_what_is_a_card(self):
        for card in EITHER:
            self.assertEqual(run(TEXT, card, [])[0], 0, card)
            self.assertEqual(run([], card, []), [0], card)

    def test_what_is_no_card(self):
        for card in NEITHER + NO_CARD:
            self.assertEqual(run(TEXT, card, []), [-8], card)
            self.assertEqual(run([], card, []), [-8], card)

    def test_what_the_machine_may_send(self):
        for sending in EITHER + NO_CARD + (FULL_SENDING,):
            self.assertEqual(run(TEXT, [], sending)[0], 0, sending)
            self.assertEqual(run([], [], sending), [0], sending)

    def test_what_the_machine_may_not_send(self):
        for sending in NEITHER:
            self.assertEqual(run(TEXT, [], sending), [-8], sending)
            self.assertEqual(run([], [], sending), [-8], sending)

    def test_either_is_refused_whatever_the_other_is(self):
        for good in ([], [0, 1], FULL_CARD):
            for bad in NEITHER:
                self.assertEqual(run(TEXT, good, bad), [-8])
                self.assertEqual(run(TEXT, bad, good), [-8])
                self.assertEqual(run(TEXT, bad, bad), [-8])

    def test_what_no_wire_reads_is_looked_at_too(self):
        text = panel("send 1 > to 2")
        self.assertEqual(run(text, [70, 0], []), [-8])
        self.assertEqual(run(text, [], [200, 4096]), [-8])
        self.assertEqual(run(text, [70, 1], [200, 4095]), [0, 2, 8])

    def test_every_column_and_one_more(self):
        self.assertEqual(run(TEXT, FULL_CARD, []), [0, 0, 4095, 2, 8])
        self.assertEqual(run(TEXT, FULL_CARD + [80, 1], []), [-8])
        self.assertEqual(run(TEXT, FULL_CARD + [79], []), [-8])

    def test_every_hub_and_one_more(self):
        self.assertEqual(run(TEXT, [], FULL_SENDING), [0, 1, 4095, 2, 8])
        self.assertEqual(run(TEXT, [], FULL_SENDING + [256, 1]), [-8])
        self.assertEqual(run(TEXT, [], FULL_SENDING + [255]), [-8])

    def test_a_wrong_number_at_every_place(self):
        for wrong in (-1, 4096, FAR, -FAR):
            for place in range(160):
                self.assertEqual(run(TEXT, FULL_CARD[:place] + [wrong] + FULL_CARD[place + 1:], []), [-8])
            for place in range(512):
                self.assertEqual(run(TEXT, [], FULL_SENDING[:place] + [wrong] + FULL_SENDING[place + 1:]), [-8])

    def test_a_number_lost_at_every_place(self):
        for place in range(160):
            self.assertEqual(run(TEXT, FULL_CARD[:place] + FULL_CARD[place + 1:], []), [-8])

    def test_every_number_of_holes(self):
        for holes in range(-3, 4100):
            card = run(TEXT, [0, holes], [])
            sending = run(TEXT, [], [0, holes])
            if 1 <= holes <= 4095:
                self.assertEqual((card, sending), ([0, 0, holes, 2, 8], [0, 1, holes, 2, 8]))
            else:
                self.assertEqual((card, sending), ([-8], [-8]), holes)

    def test_lists_of_16000_numbers(self):
        for row in (
            [0] * 16000, [1] * 16000, [0, 1] * 8000, [FAR] * 16000, [-FAR] * 16000, list(range(16000)),
            FULL_CARD + [80, 1] * 7920, [number for k in range(8000) for number in (k, 1)],
            [number for k in range(8000) for number in (-k, 1)],
        ):
            self.assertEqual(len(row), 16000)
            self.assertEqual(run(TEXT, row, []), [-8])
            self.assertEqual(run(TEXT, [], row), [-8])
            self.assertEqual(run(TEXT, row, row), [-8])


class OrderOfRefusals(unittest.TestCase):
    too_long = TEXT + [10] * 16384
    faults = (
        ([10], [-6, 1, 0, 0]),
        (panel("read 80 > to 0"), [-6, 1, 0, 6]),
        (TEXT[:-1], [-6, 1, 2, 13]),
        (panel(*["read 0 > to 0"] * 257), [-6, 2, 256, 0]),
        (panel("read 0 > to 0", "read 0 > to 0"), [-6, 3, 1, 0]),
        (panel("both 0 > one 0"), [-6, 4, 0, 0]),
    )

    def test_too_long_before_all(self):
        for text in (self.too_long, [10] * 65536, panel("both 0 > one 0") * 2000):
            for row in ([], [0], [0, 0]):
                self.assertEqual(run(text, row, row), [-1])

    def test_a_fault_before_what_is_not_told(self):
        for text, answer in self.faults:
            for row in ([], [0, 1]) + NEITHER:
                self.assertEqual(run(text, row, []), answer)
                self.assertEqual(run(text, [], row), answer)
                self.assertEqual(run(text, row, row), answer)

    def test_the_longest_text_is_not_too_long(self):
        self.assertEqual(run([97] * 16384, [], []), [-6, 1, 0, 0])
        self.assertEqual(run([97] * 16385, [], []), [-1])


if __name__ == "__main__":
    unittest.main()
