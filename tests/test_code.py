"""The code: which holes each number from 0 to 63 has, as `send` sends them."""

import unittest

from hubpanels.panels import run
from tests.helper import CODE, holes_of, panel


def sent(number):
    """The holes that `send` sends, 0 if it sends nothing."""
    answer = run(panel(f"send {number} > to 0"), [], [])
    return 0 if answer == [0] else answer[2]


class Code(unittest.TestCase):
    def test_every_number(self):
        self.assertEqual(len(CODE), 64)
        for number in range(64):
            holes = holes_of(CODE[number])
            answer = [0, 0, holes] if holes else [0]
            self.assertEqual(run(panel(f"send {number} > to 0"), [], []), answer, number)

    def test_nought_is_nothing(self):
        self.assertEqual(run(panel("send 0 > to 0"), [], []), [0])

    def test_the_numbers_that_the_words_name(self):
        for number, rows in (
            (1, (3,)), (8, (10,)), (9, (11,)), (10, (10, 4)), (15, (10, 9)),
            (16, (0,)), (17, (0, 3)), (25, (0, 11)), (26, (0, 10, 4)), (31, (0, 10, 9)),
            (32, (1,)), (41, (1, 11)), (42, (1, 10, 4)), (47, (1, 10, 9)),
            (48, (2,)), (49, (2, 3)), (57, (2, 11)), (58, (2, 10, 4)), (63, (2, 10, 9)),
        ):
            self.assertEqual(sent(number), holes_of(rows), number)

    def test_some_as_numbers(self):
        self.assertEqual(
            [sent(number) for number in (0, 9, 10, 15, 16, 25, 26, 48, 63)],
            [0, 2048, 1040, 1536, 1, 2049, 1041, 4, 1540],
        )

    def test_no_two_numbers_have_the_same_holes(self):
        self.assertEqual(len({sent(number) for number in range(64)}), 64)

    def test_it_is_sent_whatever_the_card_and_the_machine_send(self):
        card = [number for column in range(80) for number in (column, 4095)]
        sending = [number for hub in range(256) for number in (hub, 4095)]
        for number in range(1, 64):
            self.assertEqual(run(panel(f"send {number} > to 9"), card, sending), [0, 9, sent(number)])


if __name__ == "__main__":
    unittest.main()
