"""Faults of kinds 1 and 2: what is no line, and a line too many."""

import unittest

from hubpanels.panels import judge
from tests.helper import LAST_NUMBERS, SENDERS, TAKERS, as_text, panel, sender_with

FULL = [f"read {n % 80} > to {n}" for n in range(256)]


class NoLine(unittest.TestCase):
    # Each case: the right bytes, then what stands behind them.
    def refuse(self, right, wrong):
        text = as_text(right + wrong)
        answer = [-6, 1, 0, len(right)]
        self.assertEqual(judge(text), answer, (right, wrong))
        before = panel("send 3 > to 9", "hole 1 2 > to 8")
        self.assertEqual(judge(before + text), [-6, 1, 2, len(right)], (right, wrong))
        self.assertEqual(judge(text + as_text("\n") + before), answer, (right, wrong))

    def test_wrong_first_byte(self):
        for wrong in ("x", "R", " ", ">", "0", "t", "o", "p", "\0", "\xff", "\r", "\t"):
            self.refuse("", wrong + "ead 0 > to 0\n")

    def test_wrong_byte_within_a_word(self):
        self.refuse("re", "d 0 > to 0\n")
        self.refuse("s", "plit 0 > to 0\n")
        self.refuse("cho", "Sen 0 > to 0\n")
        self.refuse("bot", " 0 > to 0\n")
        self.refuse("upper", "s 0 > to 0\n")
        self.refuse("read", "0 > to 0\n")
        self.refuse("read 0 > ", "from 0\n")
        self.refuse("read 0 > s", "end 0\n")
        self.refuse("read 0 > t", "hree 0\n")
        self.refuse("read 0 > tw", " 0\n")
        self.refuse("read 0 > o", "r 0\n")
        self.refuse("read 0 > on", "ly 0\n")
        self.refuse("read 0 > oth", "r 0\n")
        self.refuse("read 0 > to", "o 0\n")
        self.refuse("read 0 > to", "0\n")

    def test_wrong_byte_within_a_number(self):
        self.refuse("read ", "x > to 0\n")
        self.refuse("read ", "-1 > to 0\n")
        self.refuse("read ", "+1 > to 0\n")
        self.refuse("read 1", "x > to 0\n")
        self.refuse("from 12", "x > to 0\n")
        self.refuse("from 1", "/2 > to 0\n")
        self.refuse("from 1", ":2 > to 0\n")
        self.refuse("hole 1 1", "x > to 0\n")
        self.refuse("read 1 > to ", "x\n")
        self.refuse("read 1 > to 1", "x2\n")

    def test_wrong_byte_within_the_middle(self):
        self.refuse("read 1", "> to 0\n")
        self.refuse("read 1", "\t> to 0\n")
        self.refuse("read 1 ", "< to 0\n")
        self.refuse("read 1 ", "to 0\n")
        self.refuse("read 1 >", "to 0\n")
        self.refuse("read 1 >", "> to 0\n")

    def test_number_one_beyond_its_range(self):
        for word in SENDERS:
            last = LAST_NUMBERS[word]
            for place in range(len(last)):
                right = word + " 0" * place + " " + str(last[place] + 1)
                self.refuse(right[:-1], right[-1] + " > to 0\n")
        for word in TAKERS:
            right = f"read 0 > {word} {LAST_NUMBERS[word][0] + 1}"
            self.refuse(right[:-1], right[-1] + "\n")

    def test_numbers_far_beyond_their_range(self):
        self.refuse("read 9", "9 > to 0\n")
        self.refuse("from 99", "9 > to 0\n")
        self.refuse("from 25", "65 > to 0\n")
        self.refuse("from 255", "5 > to 0\n")
        self.refuse("from 30", "0 > to 0\n")
        self.refuse("from 100", "0 > to 0\n")
        self.refuse("hole 63 9", "9 > to 0\n")
        self.refuse("hole 63 11", "0 > to 0\n")
        self.refuse("hole 6", "4 0 > to 0\n")
        self.refuse("read 0 > to 25", "6" + "0" * 2000 + "\n")

    def test_needless_nought(self):
        for word in SENDERS:
            self.refuse(f"{word} 0", "1 > to 0\n")
            self.refuse(f"{word} 0", "0 > to 0\n")
        for word in TAKERS:
            self.refuse(f"read 0 > {word} 0", "7\n")
            self.refuse(f"read 0 > {word} 0", "0\n")
        self.refuse("hole 10 0", "1 > to 0\n")

    def test_doubled_blank(self):
        self.refuse("read ", " 0 > to 0\n")
        self.refuse("read 0 ", " > to 0\n")
        self.refuse("read 0 > ", " to 0\n")
        self.refuse("read 0 > to ", " 0\n")
        self.refuse("hole 1 ", " 2 > to 0\n")
        self.refuse("hole 1 2 ", " > to 0\n")

    def test_blank_at_the_start_or_the_end(self):
        self.refuse("", " read 0 > to 0\n")
        self.refuse("read 0 > to 0", " \n")
        self.refuse("read 0 > to 255", " \n")

    def test_too_few_numbers(self):
        for word in SENDERS:
            self.refuse(f"{word} ", "> to 0\n")
            self.refuse(word, "\n")
        for word in TAKERS:
            self.refuse(f"read 0 > {word}", "\n")
            self.refuse(f"read 0 > {word} ", "\n")
        self.refuse("hole 5 ", "> to 0\n")
        self.refuse("hole 5", "> to 0\n")

    def test_too_many_numbers(self):
        for word in SENDERS:
            self.refuse(sender_with(word, 5) + " ", "6 > to 0\n")
        for word in TAKERS:
            self.refuse(f"read 0 > {word} 5", " 6\n")

    def test_line_that_ends_too_soon(self):
        whole = "hole 63 11 > plain 6"
        for end in range(len(whole)):
            self.refuse(whole[:end], "\n")

    def test_empty_line(self):
        self.assertEqual(judge(as_text("\n")), [-6, 1, 0, 0])
        self.assertEqual(judge(as_text("\n\n")), [-6, 1, 0, 0])
        self.assertEqual(judge(panel("read 0 > to 0", "")), [-6, 1, 1, 0])
        self.assertEqual(judge(panel("read 0 > to 0", "", "read 0 > to 1")), [-6, 1, 1, 0])

    def test_byte_behind_a_whole_line(self):
        for byte in "x;>a\r\t\0\xff":
            self.refuse("read 0 > to 10", byte + "\n")
        self.refuse("read 0 > to 100", "0\n")
        self.refuse("read 0 > to 10", " > to 11\n")

    def test_line_that_lacks_only_what_comes_behind(self):
        whole = "hole 63 11 > other 63"
        for end in range(1, len(whole) + 1):
            self.assertEqual(judge(as_text(whole[:end])), [-6, 1, 0, end])
            text = panel("read 0 > to 0") + as_text(whole[:end])
            self.assertEqual(judge(text), [-6, 1, 1, end])

    def test_last_line_without_its_end_and_with_a_wrong_byte(self):
        self.assertEqual(judge(as_text("read 0 > to 0x")), [-6, 1, 0, 13])
        self.assertEqual(judge(as_text("x")), [-6, 1, 0, 0])

    def test_bytes_0_and_255_at_every_place(self):
        whole = as_text("hole 63 11 > split 63\n")
        for byte in (0, 255):
            for place in range(len(whole)):
                text = whole[:place] + [byte] + whole[place + 1:]
                self.assertEqual(judge(text), [-6, 1, 0, place])
                text = whole[:place] + [byte] + whole[place:]
                self.assertEqual(judge(text), [-6, 1, 0, place])
            self.assertEqual(judge(whole + [byte]), [-6, 1, 1, 0])

    def test_the_first_line_that_is_none(self):
        text = panel("read 0 > to 0", "read 0 > tx", "x", "read 80 > to 0")
        self.assertEqual(judge(text), [-6, 1, 1, 10])


class LineTooMany(unittest.TestCase):
    def test_256_lines_are_taken(self):
        self.assertEqual(judge(panel(*FULL)), [256])

    def test_a_257th_is_a_fault_whatever_it_says(self):
        for line in ("send 0 > split 0\n", "read 0 > to 0\n", "both 0 > one 0\n", "\n", "x\n", "\n\n\n",
                     "send 0 > split 0", "send", "x", " ", "\0", "\xff"):
            self.assertEqual(judge(panel(*FULL) + as_text(line)), [-6, 2, 256, 0], line)

    def test_many_more_lines(self):
        self.assertEqual(judge(panel(*FULL, *FULL)), [-6, 2, 256, 0])

    def test_an_earlier_line_that_is_none_comes_first(self):
        for place in (0, 100, 255):
            lines = FULL[:place] + ["read 0 < to 0"] + FULL[place + 1:]
            self.assertEqual(judge(panel(*lines)), [-6, 1, place, 7])
            self.assertEqual(judge(panel(*lines, "read 0 > to 0")), [-6, 1, place, 7])

    def test_a_later_line_that_is_none_does_not_count(self):
        self.assertEqual(judge(panel(*FULL, "read 0 > split 0", "x")), [-6, 2, 256, 0])

    def test_the_256th_without_its_end(self):
        self.assertEqual(judge(panel(*FULL)[:-1]), [-6, 1, 255, len(FULL[255])])


if __name__ == "__main__":
    unittest.main()
