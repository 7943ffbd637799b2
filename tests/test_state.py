"""state: the holes that go into one hub, and which hubs there are."""

import random
import unittest

from hubpanels.panels import run, state
from tests.helper import (
    EITHER, FAR, FULL_SENDING, LAST_NUMBERS, NEITHER, NO_CARD, TAKERS, doubling_way, expected_inside, holes_of,
    long_way, orders, panel, some_panel, some_told, turning_way,
)

BEYOND = (-FAR, -256, -64, -2, -1, FAR, 2 ** 31, 2 ** 32, 2 ** 63)


class EachKind(unittest.TestCase):
    def test_something_goes_into_it(self):
        for into, word in enumerate(TAKERS):
            for k in range(LAST_NUMBERS[word][0] + 1):
                self.assertEqual(state(into, k, panel(f"read 3 > {word} {k}"), [3, 77], []), [77])

    def test_a_wire_that_carries_nothing(self):
        for into, word in enumerate(TAKERS):
            for k in range(LAST_NUMBERS[word][0] + 1):
                for sender in ("read 3", "from 3", "send 0"):
                    self.assertEqual(state(into, k, panel(f"{sender} > {word} {k}"), [2, 77], [4, 77]), [0])

    def test_without_a_wire(self):
        for into, word in enumerate(TAKERS):
            for k in range(LAST_NUMBERS[word][0] + 1):
                self.assertEqual(state(into, k, [], [3, 77], [3, 77]), [0])

    def test_the_other_hubs_have_wires(self):
        hubs = [(into, word, k) for into, word in enumerate(TAKERS) for k in (0, 5, 63)]
        for into, word, k in hubs:
            wires = [f"read 0 > {other} {m}" for kind, other, m in hubs if (kind, m) != (into, k)]
            self.assertEqual(state(into, k, panel(*wires), [0, 4095], []), [0])
            self.assertEqual(state(into, k, panel(*wires, f"read 1 > {word} {k}"), [0, 4095, 1, 5], []), [5])

    def test_each_kind_by_its_own_number(self):
        wires = [f"read {into} > {word} 9" for into, word in enumerate(TAKERS)]
        card = [number for into in range(8) for number in (into, into + 101)]
        for into in range(8):
            self.assertEqual(state(into, 9, panel(*wires), card, []), [into + 101])
            self.assertEqual(state(into, 8, panel(*wires), card, []), [0])

    def test_all_holes(self):
        for holes in range(1, 4096, 3):
            self.assertEqual(state(4, 0, panel("read 0 > plain 0"), [0, holes], []), [holes])
            self.assertEqual(state(0, 0, panel("from 0 > to 0"), [], [0, holes]), [holes])

    def test_what_goes_in_and_not_what_comes_out(self):
        wires = ["read 0 > split 1", "upper 1 > look 1", "hole 1 1 > one 1", "lower 1 > two 1", "both 1 > by 1",
                 "send 9 > plain 1", "send 48 > other 1", "chosen 1 > to 1"]
        text = panel(*wires)
        told = [state(into, 1, text, [0, 3 + 64], [])[0] for into in range(8)]
        self.assertEqual(told, [4, 67, 3, 66, 2048, 4, 2, 64])
        told = [state(into, 1, text, [], [])[0] for into in range(8)]
        self.assertEqual(told, [2048, 0, 0, 0, 2048, 4, 0, 0])


class NoSuchHub(unittest.TestCase):
    text = panel("read 0 > to 0", "read 0 > two 63")

    def test_the_ends_of_the_ranges(self):
        for into, word in enumerate(TAKERS):
            last = LAST_NUMBERS[word][0]
            self.assertEqual(last, 255 if into == 0 else 63)
            text = panel(f"send 1 > {word} 0", f"send 9 > {word} {last}")
            self.assertEqual(state(into, 0, text, [], []), [8])
            self.assertEqual(state(into, last, text, [], []), [2048])
            self.assertEqual(state(into, last + 1, text, [], []), [-4])
            self.assertEqual(state(into, last + 2, text, [], []), [-4])
            for k in BEYOND:
                self.assertEqual(state(into, k, text, [], []), [-4], (into, k))

    def test_numbers_that_only_to_has(self):
        for into in range(8):
            for k in range(64, 256):
                self.assertEqual(state(into, k, self.text, [0, 1], []), [0] if into == 0 else [-4])

    def test_the_ends_of_the_kinds(self):
        self.assertEqual(state(0, 0, self.text, [0, 5], []), [5])
        self.assertEqual(state(7, 63, self.text, [0, 5], []), [5])
        for into in BEYOND + (8, 9, 63, 255):
            for k in (0, 63) + BEYOND:
                self.assertEqual(state(into, k, self.text, [0, 5], []), [-4], (into, k))

    def test_without_any_wire(self):
        self.assertEqual(state(-1, 0, [], [], []), [-4])
        self.assertEqual(state(0, 256, [], [], []), [-4])
        self.assertEqual(state(0, 255, [], [], []), [0])


class OrderOfRefusals(unittest.TestCase):
    text = panel("read 0 > to 0", "from 0 > one 5")
    faults = (
        ([10], [-6, 1, 0, 0]),
        (panel("read 0 > to 0", "send 64 > to 1"), [-6, 1, 1, 6]),
        (panel(*[f"read 0 > to {n}" for n in range(256)], ""), [-6, 2, 256, 0]),
        (panel("read 0 > to 0", "read 1 > to 0"), [-6, 3, 1, 0]),
        (panel("both 0 > one 1", "both 1 > one 0"), [-6, 4, 1, 0]),
    )
    hubs = ((0, 0), (6, 5), (-1, 0), (8, 0), (0, 256), (6, 64), (FAR, FAR), (-FAR, -FAR))

    def test_too_long_before_all(self):
        for text in ([10] * 16385, self.text * 1000, [0] * 65536):
            for row in ([], [0, 1], [0], [FAR] * 16000):
                for into, k in self.hubs:
                    self.assertEqual(state(into, k, text, row, row), [-1])

    def test_a_fault_before_what_is_not_told_and_no_such_hub(self):
        for text, answer in self.faults:
            for row in ([], [0, 1], [0], [0, 0], [FAR] * 16000):
                for into, k in self.hubs:
                    self.assertEqual(state(into, k, text, row, []), answer)
                    self.assertEqual(state(into, k, text, [], row), answer)
                    self.assertEqual(state(into, k, text, row, row), answer)

    def test_what_is_not_told_before_no_such_hub(self):
        for into, k in self.hubs:
            for row in NEITHER:
                self.assertEqual(state(into, k, self.text, row, []), [-8])
                self.assertEqual(state(into, k, self.text, [], row), [-8])
            for row in NO_CARD:
                self.assertEqual(state(into, k, self.text, row, []), [-8])

    def test_no_such_hub_behind_all(self):
        for into, k in self.hubs[2:]:
            for row in EITHER:
                self.assertEqual(state(into, k, self.text, row, row), [-4])
            for row in NO_CARD + (FULL_SENDING,):
                self.assertEqual(state(into, k, self.text, [], row), [-4])


class WithRunAndInAllOrders(unittest.TestCase):
    def test_of_each_to_what_run_tells(self):
        for seed in range(5):
            chance = random.Random(seed)
            text = panel(*some_panel(chance, 2))
            card = some_told(chance, 80)
            sending = some_told(chance, 256)
            answer = [0]
            for n in range(256):
                told = state(0, n, text, card, sending)
                self.assertEqual(len(told), 1)
                answer += [n] + told if told != [0] else []
            self.assertGreater(len(answer), 8)
            self.assertEqual(run(text, card, sending), answer)

    def test_every_hub_against_the_second_reading(self):
        for seed in range(25):
            chance = random.Random(seed)
            text = panel(*some_panel(chance, chance.choice((2, 3, 5))))
            card = some_told(chance, 80)
            sending = some_told(chance, 256)
            inside = expected_inside(text, card, sending)
            hubs = list(inside) + [f"{word} {chance.randrange(64)}" for word in TAKERS]
            for hub in hubs:
                word, k = hub.split(" ")
                holes = holes_of(inside.get(hub, ()))
                self.assertEqual(state(TAKERS.index(word), int(k), text, card, sending), [holes])

    def test_in_other_orders_of_the_wires(self):
        for way, into, k, answers in (
            (long_way(), 6, 62, ([1], [0])),
            (long_way(), 1, 0, ([4095], [0])),
            (long_way(), 4, 63, ([1], [0])),
            (turning_way(), 3, 63, ([0], [4])),
            (turning_way(), 3, 32, ([4], [0])),
            (doubling_way(), 7, 63, ([4095], [0])),
        ):
            for wires in orders(way)[::3]:
                self.assertEqual(state(into, k, panel(*wires), [0, 4095], []), answers[0])
                self.assertEqual(state(into, k, panel(*wires), [], []), answers[1])

    def test_panels_by_chance_in_other_orders(self):
        for seed in range(10):
            chance = random.Random(seed)
            wires = some_panel(chance, 4)
            card = some_told(chance, 80)
            sending = some_told(chance, 256)
            takers = [wire.split(" > ")[1].split(" ") for wire in wires[:20]]
            hubs = [(TAKERS.index(word), int(k)) for word, k in takers]
            first = [state(into, k, panel(*wires), card, sending) for into, k in hubs]
            for other in orders(wires)[1::6]:
                self.assertEqual([state(into, k, panel(*other), card, sending) for into, k in hubs], first)


if __name__ == "__main__":
    unittest.main()
