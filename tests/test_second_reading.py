"""P3: a text has one fault, or none; judge against the slow second reading of the document."""

import random
import unittest

from hubpanels.panels import judge
from tests.helper import BOXES, SENDERS, TAKERS, as_text, expected, hubs_of, panel

SENDING = {word: hubs_of(word) for word in SENDERS}
TAKING = {word: hubs_of(word) for word in TAKERS}


def some_wire(chance):
    sender = chance.choice(SENDING[chance.choice(SENDERS)])
    taker = chance.choice(TAKING[chance.choice(TAKERS)])
    return f"{sender} > {taker}"


def some_box_wire(chance, numbers):
    sends = chance.choice(BOXES)[0]
    takes = chance.choice(BOXES)[1]
    sender = f"{chance.choice(sends)} {chance.randrange(numbers)}"
    if sender.startswith("hole"):
        sender += f" {chance.randrange(12)}"
    return f"{sender} > {chance.choice(takes)} {chance.randrange(numbers)}"


class SecondReading(unittest.TestCase):
    def agree(self, text):
        answer = judge(text)
        self.assertEqual(answer, expected(text), bytes(text))
        self.assertIs(type(answer), list)
        self.assertTrue(all(type(number) is int for number in answer))
        if answer[0] >= 0 or answer[0] == -1:
            self.assertEqual(len(answer), 1)
        else:
            self.assertEqual((answer[0], len(answer)), (-6, 4))
            self.assertIn(answer[1], (1, 2, 3, 4))
        return answer

    def test_every_byte_at_every_place_of_some_lines(self):
        for line in ("read 7 > to 25", "from 25 > other 6", "hole 6 1 > two 63", "send 0 > one 10"):
            text = panel(line)
            for place in range(len(text)):
                for byte in range(256):
                    self.agree(text[:place] + [byte] + text[place + 1:])
                    self.agree(text[:place] + [byte] + text[place:])

    def test_every_number_up_to_1000_behind_every_word(self):
        for number in range(1001):
            for word in SENDERS:
                self.agree(panel(f"{word} {number} > to 0"))
                self.agree(panel(f"{word} 0 {number} > to 0"))
            for word in TAKERS:
                self.agree(panel(f"read 0 > {word} {number}"))

    def test_lines_of_scraps(self):
        scraps = list(SENDERS + TAKERS) + [" ", " ", " ", " > ", ">", "\n", "\n", "0", "1", "6", "12", "25", "x"]
        for seed in range(6000):
            chance = random.Random(seed)
            words = "".join(chance.choice(scraps) for scrap in range(chance.randint(0, 12)))
            self.agree(as_text(words))

    def test_panels_with_a_byte_changed_lost_or_added(self):
        for seed in range(1500):
            chance = random.Random(seed)
            text = panel(*[some_wire(chance) for wire in range(chance.randint(1, 8))])
            place = chance.randrange(len(text))
            byte = chance.choice(as_text("0123456789 >\nabcdefghijklmnopqrstuvwxyz\0\xff"))
            self.agree(text)
            self.agree(text[:place])
            self.agree(text[:place] + text[place + 1:])
            self.agree(text[:place] + [byte] + text[place + 1:])
            self.agree(text[:place] + [byte] + text[place:])

    def test_many_wires(self):
        for seed in range(60):
            chance = random.Random(seed)
            self.agree(panel(*[some_wire(chance) for wire in range(chance.randint(200, 260))]))

    def test_boxes_among_one_another(self):
        kinds = {}
        for seed in range(1500):
            chance = random.Random(seed)
            numbers = chance.choice((2, 4, 16, 64))
            wires = [some_box_wire(chance, numbers) for wire in range(chance.randint(1, 30))]
            answer = self.agree(panel(*wires))
            kind = answer[1] if len(answer) > 1 else 0
            kinds[kind] = kinds.get(kind, 0) + 1
        self.assertEqual(sorted(kinds), [0, 3, 4])
        self.assertGreater(min(kinds.values()), 100)


if __name__ == "__main__":
    unittest.main()
