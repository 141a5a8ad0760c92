"""The call rules: the grammar, and each kind of fault with its place."""

import unittest

from tests.helpers import PLAIN_GROUND, PLAIN_START, last, rules, rules_text, run, weigh

GROUND_AT = len("tafl Hall 7 7\nground\n")
START_AT = GROUND_AT + 7 * 8 + len("start\n")


def with_sign(rows, row, x, sign):
    """The rows with another sign at one place; row 0 is the uppermost."""
    told = list(rows)
    told[row] = told[row][:x] + sign + told[row][x + 1:]
    return told


def ground_place(row, x):
    return GROUND_AT + 8 * row + x


def start_place(row, x):
    return START_AT + 8 * row + x


class Texts(unittest.TestCase):

    def expect_right(self, text):
        self.assertEqual(run(rules(text)), [[0]], text)

    def expect_fault(self, text, kind, place):
        self.assertEqual(run(rules(text)), [[-6, kind, place]], text)

    def test_right_texts(self):
        self.expect_right(rules_text())
        ground = with_sign(PLAIN_GROUND, 0, 0, "X")
        for first in ("hunters", "king"):
            self.expect_right(rules_text(first=first))
        for way in ("slides", "steps"):
            for arms in ("armed", "bare"):
                for rule in ("two", "four"):
                    self.expect_right(rules_text(king=f"{way} {arms} {rule}"))
        for enmity in ("quiet", "hunters", "men", "all"):
            self.expect_right(rules_text(seat="passed " + enmity))
            self.expect_right(rules_text(seat="barred " + enmity))
            self.expect_right(rules_text(exits=enmity))
            self.expect_right(rules_text(ground, goal="exits", exits=enmity))
        for thrice in ("drawn", "hunters", "king"):
            self.expect_right(rules_text(thrice=thrice))

    def test_the_empty_text(self):
        self.expect_fault("", 1, 0)

    def test_cut_off_at_any_byte(self):
        text = rules_text(with_sign(PLAIN_GROUND, 0, 0, "X"), goal="exits", limit=60000)
        for size in range(len(text)):
            self.expect_fault(text[:size], 1, size)

    def test_a_wrong_byte_anywhere(self):
        text = rules_text()
        for place in range(len(text)):
            for byte in (0, 64, 255):
                told = list(text.encode("ascii"))
                told[place] = byte
                self.expect_fault(told, 1, place)

    def test_a_text_that_goes_on(self):
        text = rules_text()
        self.expect_fault(text + "\n", 1, len(text))
        self.expect_fault(text + text, 1, len(text))
        self.expect_fault(text + " " * 20000, 1, len(text))
        for byte in (0, 128, 254, 255):
            self.expect_fault(list(text.encode("ascii")) + [byte], 1, len(text))

    def test_long_texts(self):
        self.expect_fault([255] * 29000, 1, 0)
        self.expect_fault("tafl " + "a" * 28995, 1, 21)

    def test_words_of_which_two_begin_alike(self):
        text = rules_text(king="sleps armed two")
        self.expect_fault(text, 1, text.index("sleps") + 2)
        text = rules_text(king="sxides armed two")
        self.expect_fault(text, 1, text.index("sxides") + 1)
        text = rules_text(goal="exge")
        self.expect_fault(text, 1, text.index("exge") + 2)
        text = rules_text(goal="epits")
        self.expect_fault(text, 1, text.index("epits") + 1)

    def test_words_of_another_line(self):
        for line, words, at in (("first", "men", 0), ("thrice", "men", 0), ("exits", "king", 0), ("seat", "quiet", 0),
                                ("king", "slides two", 7), ("thrice", "hunter", 6), ("goal", "edges", 4)):
            text = rules_text(**{line: words})
            self.expect_fault(text, 1, text.index(f"\n{line} ") + len(line) + 2 + at)

    def test_lines_in_another_order(self):
        text = rules_text().replace("goal edge\nthrice drawn\n", "thrice drawn\ngoal edge\n")
        self.expect_fault(text, 1, text.index("thrice"))

    def test_names(self):
        for name in ("a", "Z", "A1", "abcdefghijklmnop", "z234567890123456"):
            self.expect_right(rules_text(name=name))
        self.expect_fault(rules_text(name="abcdefghijklmnopq"), 1, 5 + 16)
        self.expect_fault(rules_text(name="a2345678901234567"), 1, 5 + 16)
        self.expect_fault(rules_text(name=""), 1, 5)
        self.expect_fault(rules_text(name="1a"), 1, 5)
        self.expect_fault(rules_text(name="a-b"), 1, 6)
        for sign in "@[`{/:":
            self.expect_fault(rules_text(name=sign), 1, 5)
            self.expect_fault(rules_text(name="a" + sign), 1, 6)

    def sized(self, wide, high, wide_told=None, high_told=None):
        """A text whose ground is so large, whatever it says of that."""
        ground = ["." * wide for _ in range(high)]
        start = with_sign(with_sign(ground, 1, 1, "K"), 0, 0, "h")
        return rules_text(ground, start, wide=wide_told or wide, high=high_told or high)

    def test_sizes(self):
        for wide in (5, 9, 10, 13):
            for high in (5, 9, 10, 13):
                self.expect_right(self.sized(wide, high))
        wide_at = len("tafl Hall ")
        for told, at in (("4", 0), ("0", 0), ("05", 0), ("14", 1), ("1", 1), ("2", 0), ("20", 0), ("50", 1),
                         ("130", 2), ("x", 0)):
            self.expect_fault(self.sized(5, 5, wide_told=told), 1, wide_at + at)
            self.expect_fault(self.sized(5, 5, high_told=told), 1, wide_at + 2 + at)

    def test_numbers(self):
        for limit in (1, 9, 10, 59999, 60000, 6001, 9999):
            self.expect_right(rules_text(limit=limit))
        for limit, at in (("0", 0), ("00", 0), ("01", 0), ("60001", 4), ("60010", 4), ("61000", 4), ("70000", 4),
                          ("100000", 5), ("600000", 5), ("99999", 4), ("", 0), ("-1", 0), ("1 ", 1), ("x", 0)):
            text = rules_text(limit=limit)
            self.expect_fault(text, 1, text.index("limit ") + 6 + at)

    def test_rows_too_short_too_long_too_few_too_many(self):
        self.expect_fault(rules_text(PLAIN_GROUND[:-1], wide=7, high=7), 1, ground_place(6, 0))
        self.expect_fault(rules_text(PLAIN_GROUND + ["......."], wide=7, high=7), 1, ground_place(7, 0))
        self.expect_fault(rules_text(start=PLAIN_START[:-1]), 1, start_place(6, 0))
        self.expect_fault(rules_text(start=PLAIN_START + ["......."]), 1, start_place(7, 0))
        self.expect_fault(rules_text(PLAIN_GROUND[:-1] + ["......"]), 1, ground_place(6, 6))
        self.expect_fault(rules_text(PLAIN_GROUND[:-1] + ["........"]), 1, ground_place(6, 7))
        self.expect_fault(rules_text(start=PLAIN_START[:-1] + ["........"]), 1, start_place(6, 7))

    def test_signs_of_the_other_rows(self):
        for sign in "hmKx":
            self.expect_fault(rules_text(with_sign(PLAIN_GROUND, 2, 3, sign)), 1, ground_place(2, 3))
        for sign in "SX#k":
            self.expect_fault(rules_text(start=with_sign(PLAIN_START, 2, 3, sign)), 1, start_place(2, 3))

    def test_a_second_seat(self):
        ground = with_sign(PLAIN_GROUND, 5, 1, "S")
        self.expect_fault(rules_text(ground), 2, ground_place(5, 1))
        self.expect_fault(rules_text(with_sign(ground, 6, 0, "S")), 2, ground_place(5, 1))
        ground = with_sign(PLAIN_GROUND, 1, 1, "S")
        self.expect_fault(rules_text(ground), 2, ground_place(3, 3))

    def test_pieces_that_may_not_begin_there(self):
        for sign in "hmK":
            start = with_sign(with_sign(PLAIN_START, 3, 3, "."), 5, 1, sign)
            if sign != "K":
                start = with_sign(start, 1, 1, "K")
            for ground, bad in (("#", True), ("X", True), ("S", sign != "K"), (".", False)):
                text = rules_text(with_sign(with_sign(PLAIN_GROUND, 3, 3, "."), 5, 1, ground), start)
                if bad:
                    self.expect_fault(text, 3, start_place(5, 1))
                else:
                    self.expect_right(text)

    def test_a_second_king(self):
        start = with_sign(PLAIN_START, 5, 1, "K")
        self.expect_fault(rules_text(start=start), 4, start_place(5, 1))
        self.expect_fault(rules_text(start=with_sign(start, 1, 1, "K")), 4, start_place(3, 3))

    def test_the_goal(self):
        text = rules_text(goal="exits")
        self.expect_fault(text, 5, text.index("goal ") + 5)
        start = with_sign(PLAIN_START, 3, 3, ".")
        for row, x in ((0, 1), (6, 1), (1, 0), (1, 6)):
            text = rules_text(start=with_sign(start, row, x, "K"))
            self.expect_fault(text, 5, text.index("goal ") + 5)
            ground = with_sign(PLAIN_GROUND, 5, 5, "X")
            self.expect_right(rules_text(ground, with_sign(start, row, x, "K"), goal="exits"))
        for row, x in ((1, 1), (5, 5), (1, 5), (5, 1)):
            self.expect_right(rules_text(start=with_sign(start, row, x, "K")))

    def test_what_is_missing(self):
        text = rules_text(start=with_sign(PLAIN_START, 3, 3, "."))
        self.expect_fault(text, 6, len(text))
        text = rules_text(start=[row.replace("h", ".") for row in PLAIN_START])
        self.expect_fault(text, 6, len(text))
        self.expect_right(rules_text(start=[row.replace("m", ".") for row in PLAIN_START]))
        seatless = with_sign(PLAIN_GROUND, 3, 3, ".")
        self.expect_right(rules_text(seatless, seat="passed quiet"))
        for seat in ("passed hunters", "passed men", "passed all", "barred quiet", "barred all"):
            text = rules_text(seatless, seat=seat)
            self.expect_fault(text, 6, len(text))

    def test_a_goal_edge_without_a_king_is_at_fault_by_the_missing_king(self):
        text = rules_text(start=with_sign(PLAIN_START, 3, 3, "."), goal="edge")
        self.expect_fault(text, 6, len(text))

    def test_of_two_faults_at_one_place_the_lesser_kind(self):
        start = with_sign(PLAIN_START, 5, 1, "K")
        for ground in "#X":
            text = rules_text(with_sign(PLAIN_GROUND, 5, 1, ground), start)
            self.expect_fault(text, 3, start_place(5, 1))

    def test_of_two_places_the_first(self):
        start = with_sign(with_sign(PLAIN_START, 1, 1, "K"), 5, 5, "m")
        ground = with_sign(PLAIN_GROUND, 5, 5, "#")
        self.expect_fault(rules_text(ground, start), 4, start_place(3, 3))
        self.expect_fault(rules_text(with_sign(ground, 6, 6, "S"), start), 2, ground_place(6, 6))
        start = with_sign(PLAIN_START, 1, 1, "h")
        ground = with_sign(PLAIN_GROUND, 1, 1, "#")
        self.expect_fault(rules_text(ground, with_sign(start, 5, 5, "K")), 3, start_place(1, 1))
        text = rules_text(start=with_sign(with_sign(PLAIN_START, 3, 3, "."), 0, 0, "K"), seat="passed all")
        self.expect_fault(text, 5, text.index("goal ") + 5)
        text = rules_text(start=with_sign(PLAIN_START, 3, 3, "."), goal="exits")
        self.expect_fault(text, 5, text.index("goal ") + 5)

    def test_the_grammar_is_ahead_of_all_else(self):
        text = rules_text(with_sign(PLAIN_GROUND, 5, 1, "S"), goal="exits", limit=60001)
        self.expect_fault(text, 1, len(text) - 2)

    def test_wide_and_high_are_not_mistaken(self):
        text = self.sized(5, 8)
        self.assertEqual(run(rules(text), weigh("5/5/5/5/5/5/5/5 h"), weigh("8/8/8/8/8 h")),
                         [[0], [0, 0], [-5, 1, 0]])
        self.assertEqual(last(rules(self.sized(8, 5)), weigh("8/8/8/8/8 h")), [0, 0])


if __name__ == "__main__":
    unittest.main()
