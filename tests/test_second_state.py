"""What goes into the hubs of sound panels made by chance, against the slow second reading of the document."""

import random
import unittest

from hubpanels.panels import judge, run
from tests.helper import expected_run, panel, some_panel, some_told


class SecondState(unittest.TestCase):
    def test_the_panels_are_sound(self):
        for seed in range(60):
            chance = random.Random(seed)
            wires = some_panel(chance, chance.choice((1, 3, 10, 30)))
            self.assertEqual(judge(panel(*wires)), [len(wires)])

    def test_run(self):
        told = 0
        for seed in range(300):
            chance = random.Random(seed)
            text = panel(*some_panel(chance, chance.choice((1, 2, 3, 5, 8, 30))))
            for time in range(3):
                card = some_told(chance, 80)
                sending = some_told(chance, 256)
                answer = run(text, card, sending)
                self.assertEqual(answer, expected_run(text, card, sending))
                told += len(answer)
        self.assertGreater(told, 5000)

    def test_rows_that_may_not_be_told(self):
        kinds = {}
        for seed in range(3000):
            chance = random.Random(seed)
            text = panel("read 0 > to 0", "read 1 > to 1", "from 0 > to 2", "from 1 > to 3")
            rows = []
            for row in range(2):
                numbers = chance.choices((0, 1, 2, 79, 80, 255, 256, 4095, 4096, -1), k=chance.choice((0, 2, 2, 3, 4)))
                rows.append(numbers)
            answer = run(text, rows[0], rows[1])
            self.assertEqual(answer, expected_run(text, rows[0], rows[1]), rows)
            kinds[answer[0]] = kinds.get(answer[0], 0) + 1
        self.assertEqual(sorted(kinds), [-8, 0])
        self.assertGreater(min(kinds.values()), 300)


if __name__ == "__main__":
    unittest.main()
