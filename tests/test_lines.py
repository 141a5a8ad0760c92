"""Positions' lines and their faults."""

import unittest

from tests.helpers import hall_text, rules, rules_text, run, weigh

SMALL = hall_text(["X....", ".....", "..S..", ".#...", "....."], exits="quiet")
WIDE = hall_text(["." * 13, "." * 13, "." * 13, "." * 13, "." * 13])
TENS = hall_text(["." * 10, "." * 10, "." * 10, "." * 10, "." * 10])


class Lines(unittest.TestCase):

    def expect_right(self, text, line):
        self.assertEqual(run(rules(text), weigh(line))[1][0], 0, line)

    def expect_fault(self, text, line, kind, place):
        self.assertEqual(run(rules(text), weigh(line)), [[0], [-5, kind, place]], line)

    def test_right_lines(self):
        for line in ("5/5/5/5/5 h", "5/5/5/5/5 k", "1h3/mmhhm/2K2/h1h1h/5 k", "K4/5/5/5/5 h", "4h/4K/5/5/hhhhh h",
                     "5/5/5/5/4K h"):
            self.expect_right(SMALL, line)

    def test_a_line_says_which_piece_is_where(self):
        text = rules_text()
        line = "7/7/7/7/7/7/hhmK3 k"
        # On the edge, the goal, the king has no roads; two hunters and a man are weighed.
        self.assertEqual(run(rules(text), weigh(line, 100, 10, 1)), [[0], [0, 190]])
        # Two rows from below, in the fourth column: three cells up, one down, one to the left, three to the right.
        line = "7/3m3/7/7/7/1h1K3/7 h"
        self.assertEqual(run(rules(text), weigh(line, 0, 0, 1)), [[0], [0, -(3 + 1 + 1 + 3)]])

    def test_the_empty_line(self):
        self.expect_fault(SMALL, "", 1, 0)

    def test_a_line_that_is_cut_off(self):
        for text, line in ((SMALL, "1h3/mmhhm/2K2/h1h1h/5 k"), (WIDE, "13/h11h/1K11/13/12h h")):
            self.expect_right(text, line)
            for size in range(len(line)):
                self.expect_fault(text, line[:size], 1, size)

    def test_a_line_that_goes_on(self):
        line = "5/5/5/5/5 h"
        for more in (" ", "h", "/", "\n", "k", line):
            self.expect_fault(SMALL, line + more, 1, len(line))
        for byte in (0, 128, 254, 255):
            self.expect_fault(SMALL, list(line.encode("ascii")) + [byte], 1, len(line))
        self.expect_fault(SMALL, "5/5/5/5/5/5 h", 1, 9)
        self.expect_fault(SMALL, "5/5/5/5 h", 1, 7)

    def test_lines_of_more_than_512_bytes(self):
        line = "5/5/5/5/5 h"
        for size in (512, 513, 514, 28000):
            self.expect_fault(SMALL, line + " " * (size - len(line)), 1, len(line))
            self.expect_fault(SMALL, "h" * size, 1, 5)
            self.expect_fault(SMALL, [255] * size, 1, 0)
            self.expect_fault(SMALL, "5/5" + "1" * (size - 3), 1, 3)

    def test_numbers_beyond_the_row(self):
        self.expect_fault(SMALL, "6/5/5/5/5 h", 1, 0)
        self.expect_fault(SMALL, "h5/5/5/5/5 h", 1, 1)
        self.expect_fault(SMALL, "h3h1/5/5/5/5 h", 1, 3)
        self.expect_fault(SMALL, "5h/5/5/5/5 h", 1, 1)
        self.expect_fault(SMALL, "15/5/5/5/5 h", 1, 1)
        self.expect_fault(SMALL, "10/5/5/5/5 h", 1, 1)
        self.expect_fault(SMALL, "0h4/5/5/5/5 h", 1, 0)
        self.expect_fault(SMALL, "05/5/5/5/5 h", 1, 0)

    def test_numbers_of_two_digits(self):
        rest = "/13/13/13/13 h"
        for row in ("13", "12h", "h12", "1h11", "11hh", "10h2", "hh1h9", "1K1h1m1h1h1h1"):
            self.expect_right(WIDE, row + rest)
        for row, place in (("14", 1), ("h13", 2), ("hh12", 3), ("hhh11", 4), ("hhhh10", 5), ("130", 2), ("20", 1),
                           ("01", 0), ("1", 1), ("12", 2), ("131", 2), ("112", 2), ("10h3", 3), ("1hhh10", 5)):
            self.expect_fault(WIDE, row + rest, 1, place)
        rest = "/10/10/10/10 h"
        self.expect_right(TENS, "10" + rest)
        self.expect_right(TENS, "9h" + rest)
        self.expect_fault(TENS, "11" + rest, 1, 1)
        self.expect_fault(TENS, "h10" + rest, 1, 2)

    def test_two_numbers_behind_one_another(self):
        self.expect_fault(SMALL, "32/5/5/5/5 h", 1, 1)
        self.expect_fault(SMALL, "1h12/5/5/5/5 h", 1, 3)
        self.expect_fault(SMALL, "11h2/5/5/5/5 h", 1, 1)
        self.expect_fault(WIDE, "1012/13/13/13/13 h", 1, 2)
        self.expect_fault(WIDE, "211/13/13/13/13 h", 1, 1)

    def test_rows_that_are_not_full_or_too_full(self):
        self.expect_fault(SMALL, "4/5/5/5/5 h", 1, 1)
        self.expect_fault(SMALL, "hhhh/5/5/5/5 h", 1, 4)
        self.expect_fault(SMALL, "hhhhhh/5/5/5/5 h", 1, 5)
        self.expect_fault(SMALL, "/5/5/5/5 h", 1, 0)
        self.expect_fault(SMALL, "5//5/5/5 h", 1, 2)
        self.expect_fault(SMALL, "5/5/5/5/4 h", 1, 9)
        self.expect_fault(SMALL, "5/5/5/5 5 h", 1, 7)

    def test_a_second_king(self):
        self.expect_fault(SMALL, "5/1KK2/5/5/5 h", 1, 4)
        self.expect_fault(SMALL, "5/1K3/5/5/4K h", 1, 11)

    def test_a_line_without_a_king(self):
        self.expect_right(SMALL, "5/1hm2/5/5/5 k")

    def test_whose_turn(self):
        for turn in ("", "K", "m", "H", "1", " h"):
            self.expect_fault(SMALL, "5/5/5/5/5 " + turn, 1, 10)
        self.expect_fault(SMALL, "5/5/5/5/5h", 1, 9)
        self.expect_fault(SMALL, "5/5/5/5/5", 1, 9)

    def test_other_signs(self):
        for sign in (".", "k", "H", "M", "#", "S", "X", " ", "-", "+", ":"):
            self.expect_fault(SMALL, sign + "4/5/5/5/5 h", 1, 0)
            self.expect_fault(SMALL, "h" + sign + "3/5/5/5/5 h", 1, 1)
        self.expect_fault(SMALL, [0], 1, 0)
        self.expect_fault(SMALL, [53, 255], 1, 1)

    def test_pieces_that_may_not_stand_there(self):
        self.expect_fault(SMALL, "5/5/5/1h3/5 h", 2, 7)
        self.expect_fault(SMALL, "5/5/5/1m3/5 h", 2, 7)
        self.expect_fault(SMALL, "5/5/5/1K3/5 h", 2, 7)
        self.expect_fault(SMALL, "5/5/2h2/5/5 h", 2, 5)
        self.expect_fault(SMALL, "5/5/2m2/5/5 h", 2, 5)
        self.expect_right(SMALL, "5/5/2K2/5/5 h")
        self.expect_fault(SMALL, "h4/5/5/5/5 h", 2, 0)
        self.expect_fault(SMALL, "m4/5/5/5/5 h", 2, 0)
        self.expect_right(SMALL, "K4/5/5/5/5 h")

    def test_of_several_such_pieces_the_first_in_the_line(self):
        self.expect_fault(SMALL, "1h3/5/1hm2/hK3/5 h", 2, 8)
        self.expect_fault(SMALL, "m4/5/2m2/1K3/5 h", 2, 0)

    def test_kind_1_is_ahead_of_kind_2(self):
        self.expect_fault(SMALL, "h4/5/5/5/5 x", 1, 11)

    def test_a_number_over_a_wall_counts_it(self):
        self.expect_right(SMALL, "5/5/5/h4/5 h")
        self.expect_fault(SMALL, "5/5/5/h3/5 h", 1, 8)


if __name__ == "__main__":
    unittest.main()
