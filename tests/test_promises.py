"""The promises over the whole program: P1, one state in whatever order; P2, what a hub hangs on; P3, one fault."""

import random
import unittest

from hubpanels.panels import judge, needs, run, state
from tests.helper import (
    EITHER, FAR, NEITHER, SENDERS, TAKERS, as_text, hubs_of, orders, panel, some_panel, some_told, told,
)


def as_row(holes):
    """The row of numbers by which a dict of holes is told."""
    return [number for place in sorted(holes) for number in (place, holes[place])]


def changed(chance, row, places, kept):
    """Another row, the same at the places that are kept."""
    other = told(some_told(chance, places))
    before = told(row)
    both = {place: holes for place, holes in other.items() if place not in kept}
    both.update({place: holes for place, holes in before.items() if place in kept})
    return as_row(both)


def told_of(n, answer):
    return dict(zip(answer[1::2], answer[2::2])).get(n, 0)


def ends_of(wires):
    return [int(wire.split(" > to ")[1]) for wire in wires if " > to " in wire]


class OneState(unittest.TestCase):
    def test_wires_in_other_orders(self):
        for seed in range(12):
            chance = random.Random(seed)
            wires = some_panel(chance, chance.choice((1, 3, 6, 30)))
            card = some_told(chance, 80)
            sending = some_told(chance, 256)
            hubs = [wire.split(" > ")[1].split(" ") for wire in chance.sample(wires, 5)]
            ends = chance.sample(ends_of(wires), 3)

            def answers(text):
                states = [state(TAKERS.index(word), int(k), text, card, sending) for word, k in hubs]
                return [judge(text), run(text, card, sending)] + states + [needs(n, text) for n in ends]

            first = answers(panel(*wires))
            self.assertTrue(all(answer[0] >= 0 for answer in first))
            for other in orders(wires)[1::2]:
                self.assertEqual(answers(panel(*other)), first)

    def test_every_order_of_a_small_panel(self):
        wires = ["read 0 > split 0", "upper 0 > by 0", "lower 0 > other 0", "chosen 0 > one 0", "both 0 > to 0"]
        for seed in range(120):
            random.Random(seed).shuffle(wires)
            text = panel(*wires)
            self.assertEqual(run(text, [0, 69], []), [0, 0, 68])
            self.assertEqual(state(6, 0, text, [0, 69], []), [68])
            self.assertEqual(needs(0, text), [0, 0])


class WhatAHubHangsOn(unittest.TestCase):
    def test_what_needs_does_not_tell_makes_no_difference(self):
        others = 0
        for seed in range(60):
            chance = random.Random(seed)
            wires = some_panel(chance, chance.choice((1, 2, 4, 8)))
            text = panel(*wires)
            card = some_told(chance, 80)
            sending = some_told(chance, 256)
            answer = run(text, card, sending)
            for n in chance.sample(ends_of(wires), 4) + [chance.randrange(256)]:
                needed = needs(n, text)[1:]
                columns = [number for number in needed if number < 80]
                hubs = [number - 80 for number in needed if number >= 80]
                other_card = changed(chance, card, 80, columns)
                other_sending = changed(chance, sending, 256, hubs)
                other = run(text, other_card, other_sending)
                self.assertEqual(told_of(n, other), told_of(n, answer))
                self.assertEqual(state(0, n, text, other_card, other_sending), [told_of(n, answer)])
                others += other != answer
        self.assertGreater(others, 200)

    def test_what_needs_tells_makes_a_difference_where_it_can(self):
        wires = ["read 1 > by 0", "read 2 > plain 0", "from 3 > other 0", "chosen 0 > to 0"]
        text = panel(*wires)
        self.assertEqual(needs(0, text), [0, 1, 2, 83])
        self.assertEqual(run(text, [1, 1, 2, 2], [3, 4]), [0, 0, 4])
        self.assertEqual(run(text, [2, 2], [3, 4]), [0, 0, 2])
        self.assertEqual(run(text, [1, 1, 2, 2], []), [0])
        self.assertEqual(run(text, [2, 7], [3, 4]), [0, 0, 7])

    def test_every_other_column_and_hub(self):
        text = panel("read 40 > one 0", "from 40 > two 0", "both 0 > to 0", "read 41 > to 1", "from 41 > to 2")
        full_card = {column: 4095 for column in range(80)}
        full_sending = {hub: 4095 for hub in range(256)}
        for card, sending in (({40: 8}, {40: 16}), ({40: 8}, {}), ({}, {40: 16}), ({}, {})):
            other_card = {place: holes for place, holes in full_card.items() if place != 40}
            other_sending = {place: holes for place, holes in full_sending.items() if place != 40}
            other_card.update(card)
            other_sending.update(sending)
            first = told_of(0, run(text, as_row(card), as_row(sending)))
            self.assertEqual(told_of(0, run(text, as_row(other_card), as_row(other_sending))), first)


class OneFault(unittest.TestCase):
    def same_fault(self, text):
        judged = judge(text)
        for row in ([], EITHER[1], NEITHER[0]):
            ran = run(text, row, row)
            stated = state(0, 0, text, row, row)
            if judged[0] < 0:
                self.assertEqual((ran, stated), (judged, judged))
                self.assertEqual(state(8, FAR, text, row, row), judged)
            else:
                self.assertNotIn(ran[0], (-1, -6))
                self.assertNotIn(stated[0], (-1, -6))
        for n in (0, 255, 256, -FAR):
            needed = needs(n, text)
            if judged[0] < 0:
                self.assertEqual(needed, judged)
            else:
                self.assertEqual(needed[0], 0 if n in range(256) else -4)
        return judged[1] if judged[0] == -6 else 0

    def test_texts_by_chance(self):
        senders = [hub for word in SENDERS[3:] for hub in hubs_of(word)[:3]] + ["read 0", "read 80", "send 64"]
        takers = [hub for word in TAKERS for hub in hubs_of(word)[:3]] + ["to 255", "to 255"]
        kinds = {}
        for seed in range(600):
            chance = random.Random(seed)
            wires = [f"{chance.choice(senders)} > {chance.choice(takers)}" for wire in range(chance.randint(0, 9))]
            kind = self.same_fault(panel(*wires))
            kinds[kind] = kinds.get(kind, 0) + 1
        self.assertEqual(sorted(kinds), [0, 1, 3, 4])
        self.assertGreater(min(kinds.values()), 20)

    def test_texts_that_end_anywhere(self):
        text = panel("read 0 > split 63", "hole 63 11 > to 255", "from 255 > by 0")
        for end in range(len(text) + 1):
            self.same_fault(text[:end])

    def test_too_many_lines_and_too_many_bytes(self):
        full = [f"read 0 > to {n}" for n in range(256)]
        self.assertEqual(self.same_fault(panel(*full)), 0)
        self.assertEqual(self.same_fault(panel(*full, "send 0 > by 0")), 2)
        self.assertEqual(self.same_fault(panel(*full) + [0]), 2)
        self.assertEqual(self.same_fault(panel("", *full)), 1)
        self.assertEqual(self.same_fault(as_text("x" * 16384)), 1)
        self.assertEqual(judge(as_text("x" * 16385)), [-1])
        self.same_fault(as_text("x" * 16385))


if __name__ == "__main__":
    unittest.main()
