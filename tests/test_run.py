"""run: what each hub sends, what each box does, and how the answer stands."""

import unittest

from hubpanels.panels import run
from tests.helper import SENDERS, panel, sender_with

FULL_CARD = [number for column in range(80) for number in (column, column + 1)]
FULL_SENDING = [number for hub in range(256) for number in (hub, hub + 101)]


def got(wires, card=(), sending=()):
    """What run tells, as a dict from `to` to holes."""
    answer = run(panel(*wires), list(card), list(sending))
    assert answer[0] == 0, answer
    return dict(zip(answer[1::2], answer[2::2]))


class FromOutside(unittest.TestCase):
    def test_every_column(self):
        for column in range(80):
            self.assertEqual(run(panel(f"read {column} > to 3"), FULL_CARD, []), [0, 3, column + 1])

    def test_a_column_without_holes_sends_nothing(self):
        for column in range(80):
            card = FULL_CARD[:2 * column] + FULL_CARD[2 * column + 2:]
            self.assertEqual(run(panel(f"read {column} > to 3"), card, []), [0])

    def test_every_from_hub(self):
        for hub in range(256):
            self.assertEqual(run(panel(f"from {hub} > to 3"), [], FULL_SENDING), [0, 3, hub + 101])

    def test_a_from_hub_at_which_nothing_is_sent(self):
        for hub in range(256):
            sending = FULL_SENDING[:2 * hub] + FULL_SENDING[2 * hub + 2:]
            self.assertEqual(run(panel(f"from {hub} > to 3"), [], sending), [0])

    def test_columns_and_from_hubs_of_one_number_are_others(self):
        wires = ["read 5 > to 0", "from 5 > to 1"]
        self.assertEqual(got(wires, [5, 6], [5, 7]), {0: 6, 1: 7})
        self.assertEqual(got(wires, [5, 6], []), {0: 6})
        self.assertEqual(got(wires, [], [5, 7]), {1: 7})

    def test_all_holes_come_through(self):
        for holes in range(1, 4096):
            self.assertEqual(run(panel("read 0 > to 0", "from 0 > to 1"), [0, holes], [0, 4096 - holes]),
                             [0, 0, holes, 1, 4096 - holes])


class Split(unittest.TestCase):
    wires = ("read 0 > split 7", "upper 7 > to 0", "lower 7 > to 1")

    def test_every_row(self):
        for row in range(12):
            self.assertEqual(got(self.wires, [0, 2 ** row]), {0 if row < 2 else 1: 2 ** row})

    def test_all_holes(self):
        for holes in range(1, 4096):
            parts = {0: holes % 4, 1: holes - holes % 4}
            self.assertEqual(got(self.wires, [0, holes]), {to: part for to, part in parts.items() if part})

    def test_nothing(self):
        self.assertEqual(got(self.wires, []), {})
        self.assertEqual(got(self.wires[1:], [0, 4095]), {})

    def test_the_ends_of_the_numbers(self):
        for k in (0, 63):
            wires = [f"read 0 > split {k}", f"upper {k} > to 0", f"lower {k} > to 1"]
            self.assertEqual(got(wires, [0, 4095]), {0: 3, 1: 4092})

    def test_another_box_has_no_part_in_it(self):
        self.assertEqual(got(["read 0 > split 7", "upper 8 > to 0", "lower 6 > to 1"], [0, 4095]), {})


class Look(unittest.TestCase):
    def test_every_row_with_it_and_without_it(self):
        for row in range(12):
            wires = ["read 0 > look 5", f"hole 5 {row} > to 9"]
            self.assertEqual(got(wires, [0, 2 ** row]), {9: 2 ** row})
            self.assertEqual(got(wires, [0, 4095]), {9: 2 ** row})
            self.assertEqual(got(wires, [0, 4095 - 2 ** row]), {})
            self.assertEqual(got(wires, []), {})
            self.assertEqual(got(wires[1:], [0, 4095]), {})

    def test_all_rows_of_one_box(self):
        wires = ["read 0 > look 63"] + [f"hole 63 {row} > to {row}" for row in range(12)]
        for holes in range(1, 4096, 5):
            rows = [row for row in range(12) if holes >> row & 1]
            self.assertEqual(got(wires, [0, holes]), {row: 2 ** row for row in rows})

    def test_another_box_has_no_part_in_it(self):
        self.assertEqual(got(["read 0 > look 5", "hole 6 5 > to 0", "hole 11 5 > to 1"], [0, 4095]), {})


class Chosen(unittest.TestCase):
    wires = ("read 0 > by 4", "read 1 > plain 4", "read 2 > other 4", "chosen 4 > to 8")

    def test_something_into_by(self):
        for holes in [2 ** row for row in range(12)] + [4095]:
            self.assertEqual(got(self.wires, [0, holes, 1, 2, 2, 5]), {8: 5})
            self.assertEqual(got(self.wires, [0, holes, 2, 5]), {8: 5})

    def test_something_into_by_and_nothing_into_other(self):
        self.assertEqual(got(self.wires, [0, 1, 1, 2]), {})
        self.assertEqual(got(self.wires, [0, 1]), {})

    def test_nothing_into_by(self):
        self.assertEqual(got(self.wires, [1, 2, 2, 5]), {8: 2})
        self.assertEqual(got(self.wires, [1, 2]), {8: 2})

    def test_nothing_into_by_and_nothing_into_plain(self):
        self.assertEqual(got(self.wires, [2, 5]), {})
        self.assertEqual(got(self.wires, []), {})

    def test_nothing_by_the_code_into_by(self):
        wires = ["send 0 > by 4"] + list(self.wires[1:])
        self.assertEqual(got(wires, [0, 1, 1, 2, 2, 5]), {8: 2})

    def test_by_without_a_wire(self):
        self.assertEqual(got(self.wires[1:], [0, 1, 1, 2, 2, 5]), {8: 2})
        self.assertEqual(got(self.wires[1:], [0, 1, 2, 5]), {})

    def test_plain_without_a_wire(self):
        wires = self.wires[:1] + self.wires[2:]
        self.assertEqual(got(wires, [0, 1, 1, 2, 2, 5]), {8: 5})
        self.assertEqual(got(wires, [1, 2, 2, 5]), {})

    def test_other_without_a_wire(self):
        wires = self.wires[:2] + self.wires[3:]
        self.assertEqual(got(wires, [0, 1, 1, 2, 2, 5]), {})
        self.assertEqual(got(wires, [1, 2, 2, 5]), {8: 2})

    def test_one_wire_alone(self):
        card = [0, 1, 1, 2, 2, 5]
        self.assertEqual(got([self.wires[0], self.wires[3]], card), {})
        self.assertEqual(got([self.wires[1], self.wires[3]], card), {8: 2})
        self.assertEqual(got([self.wires[2], self.wires[3]], card), {})
        self.assertEqual(got([self.wires[3]], card), {})


class Both(unittest.TestCase):
    wires = ("read 0 > one 2", "read 1 > two 2", "both 2 > to 6")

    def test_of_two(self):
        self.assertEqual(got(self.wires, [0, 1, 1, 2]), {6: 3})
        self.assertEqual(got(self.wires, [0, 2048, 1, 1]), {6: 2049})

    def test_rows_that_are_in_either(self):
        for one in range(1, 4096, 101):
            for two in range(1, 4096, 103):
                rows = [row for row in range(12) if one >> row & 1 or two >> row & 1]
                self.assertEqual(got(self.wires, [0, one, 1, two]), {6: sum(2 ** row for row in rows)})

    def test_of_one(self):
        self.assertEqual(got(self.wires, [0, 6]), {6: 6})
        self.assertEqual(got(self.wires, [1, 6]), {6: 6})
        self.assertEqual(got([self.wires[0], self.wires[2]], [0, 6, 1, 9]), {6: 6})
        self.assertEqual(got([self.wires[1], self.wires[2]], [0, 6, 1, 9]), {6: 9})

    def test_of_none(self):
        self.assertEqual(got(self.wires, []), {})
        self.assertEqual(got(self.wires[2:], [0, 6, 1, 9]), {})


class HubsAndWires(unittest.TestCase):
    def test_a_box_without_a_wire_to_it_sends_nothing(self):
        for word in SENDERS[3:]:
            for k in range(64):
                self.assertEqual(run(panel(f"{sender_with(word, k)} > to 0"), FULL_CARD, FULL_SENDING), [0])

    def test_boxes_of_one_number_and_other_kinds_are_others(self):
        wires = ["read 0 > split 3", "hole 3 0 > to 0", "chosen 3 > to 1", "both 3 > to 2"]
        self.assertEqual(got(wires, [0, 4095]), {})
        wires = ["read 0 > one 3", "hole 3 0 > to 0", "chosen 3 > to 1", "upper 3 > to 2"]
        self.assertEqual(got(wires, [0, 4095]), {})

    def test_one_hub_that_sends_to_several(self):
        wires = ["read 9 > to 0", "read 9 > to 255", "read 9 > one 0", "read 9 > by 0", "read 9 > other 0",
                 "read 9 > split 0", "both 0 > to 1", "both 0 > to 2", "chosen 0 > to 3", "upper 0 > to 4",
                 "upper 0 > to 5", "lower 0 > to 6"]
        self.assertEqual(got(wires, [9, 5]), {0: 5, 255: 5, 1: 5, 2: 5, 3: 5, 4: 1, 5: 1, 6: 4})

    def test_one_column_to_every_to(self):
        wires = [f"read 9 > to {n}" for n in range(256)]
        self.assertEqual(got(wires, [9, 4095]), {n: 4095 for n in range(256)})

    def test_a_box_that_sends_to_no_hub(self):
        self.assertEqual(run(panel("read 0 > one 0", "read 0 > split 63"), [0, 4095], []), [0])

    def test_boxes_behind_boxes(self):
        wires = [
            "read 0 > split 0", "upper 0 > look 0", "lower 0 > two 1", "hole 0 1 > by 5", "from 8 > plain 5",
            "send 48 > other 5", "chosen 5 > one 1", "both 1 > to 3", "upper 0 > to 2",
        ]
        self.assertEqual(got(wires, [0, 2 + 64], [8, 1]), {2: 2, 3: 4 + 64})
        self.assertEqual(got(wires, [0, 1 + 64], [8, 1]), {2: 1, 3: 1 + 64})
        self.assertEqual(got(wires, [0, 64], []), {3: 64})

    def test_two_wires_between_the_same_boxes(self):
        wires = ["read 0 > split 0", "lower 0 > two 0", "upper 0 > one 0", "both 0 > to 0"]
        self.assertEqual(got(wires, [0, 4095]), {0: 4095})


class Answer(unittest.TestCase):
    def test_no_wire_at_all(self):
        self.assertEqual(run([], [], []), [0])
        self.assertEqual(run([], FULL_CARD, FULL_SENDING), [0])

    def test_no_to_at_all(self):
        self.assertEqual(run(panel("read 0 > by 0", "send 1 > other 0"), FULL_CARD, FULL_SENDING), [0])

    def test_rising_whatever_the_order_of_the_wires(self):
        rising = [f"read {n % 80} > to {n}" for n in range(256)]
        answer = [0]
        for n in range(256):
            answer += [n, n % 80 + 1]
        for wires in (rising, rising[::-1], rising[1::2] + rising[::2], rising[100:] + rising[:100]):
            self.assertEqual(run(panel(*wires), FULL_CARD, []), answer)

    def test_by_number_and_not_by_sign(self):
        wires = ["read 0 > to 100", "read 0 > to 20", "read 0 > to 3", "read 0 > to 0"]
        self.assertEqual(run(panel(*wires), [0, 1], []), [0, 0, 1, 3, 1, 20, 1, 100, 1])

    def test_a_to_into_which_nothing_goes_is_not_told(self):
        wires = ["read 0 > to 0", "read 1 > to 1", "from 2 > to 2", "send 0 > to 3", "both 0 > to 4", "send 1 > to 5"]
        self.assertEqual(run(panel(*wires), [1, 7], []), [0, 1, 7, 5, 8])

    def test_the_ends_of_the_to_hubs(self):
        self.assertEqual(run(panel("read 79 > to 255", "read 0 > to 0"), [0, 1, 79, 2], []), [0, 0, 1, 255, 2])

    def test_it_is_a_list_of_whole_numbers(self):
        wires = ["read 0 > look 0", "hole 0 0 > by 0", "read 0 > other 0", "chosen 0 > to 0", "hole 0 1 > to 1"]
        for answer in (run(panel(*wires), [0, 1], []), run([], [], []), run([], [1], []), run([10], [], [])):
            self.assertIs(type(answer), list)
            self.assertTrue(all(type(number) is int for number in answer))


if __name__ == "__main__":
    unittest.main()
