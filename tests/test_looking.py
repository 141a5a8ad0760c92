"""The calls weigh, ahead and each: worths, rows, how many moves, and the refusals in their order."""

import unittest

from tests import plain
from tests.helpers import PLAIN_START, ahead, cell, each, hall_text, last, line, row_of, rules, rules_text, weigh

OPEN = ["." * 7] * 7
# A king in a narrow place: few moves, so that four ahead can be looked at.
NARROW_GROUND = ["#####", "#...#", "#.#.#", "#.S.#", "##.#X"]
NARROW = hall_text(NARROW_GROUND, king="steps armed two", goal="exits")
NARROW_ROWS = [".....", ".K...", "...h.", ".m.h.", "....."]
LONE = [".......", ".......", ".......", "...K...", ".......", ".......", "h......"]

NO_KING = [".......", ".h.....", "..m....", ".......", ".......", ".......", "......h"]
KING_HOME = [".......", ".h.....", "..m....", ".......", ".......", ".......", "...K..h"]
HELD_KING = [".......", ".......", ".......", "...h...", "..hKh..", "...h...", "......."]
NO_HUNTERS = [".......", ".......", "..m....", ".......", "...K...", ".......", "......."]


class Weighing(unittest.TestCase):

    def expect(self, text, rows, weights, weighed, turn="h"):
        self.assertEqual(last(rules(text), weigh(line(rows, turn), *weights)), [0, weighed])

    def test_each_weight_by_itself(self):
        for turn in "hk":
            self.expect(rules_text(), PLAIN_START, (1, 0, 0), 8, turn)
            self.expect(rules_text(), PLAIN_START, (0, 1, 0), -4, turn)
            self.expect(rules_text(), PLAIN_START, (0, 0, 1), 0, turn)
            self.expect(hall_text(OPEN), LONE, (0, 0, 1), -12, turn)
            self.expect(hall_text(OPEN, king="steps armed two"), LONE, (0, 0, 1), -4, turn)

    def test_all_together(self):
        self.expect(hall_text(OPEN), LONE, (7, 100, 2), 7 - 24)
        self.expect(rules_text(), PLAIN_START, (10, 3, 1), 80 - 12)
        self.expect(rules_text(), PLAIN_START, (-10, -3, 1), -80 + 12)

    def test_the_kings_own_men_are_no_king(self):
        self.expect(hall_text(OPEN), LONE, (0, 1000, 0), 0)

    def test_no_roads_when_he_is_taken_or_on_the_goal(self):
        for turn in "hk":
            self.expect(hall_text(OPEN), NO_KING, (10, 1, 1000), 19, turn)
            self.expect(hall_text(OPEN), KING_HOME, (10, 1, 1000), 19, turn)

    def test_over_by_3_is_weighed_like_any_other(self):
        self.expect(hall_text(OPEN, king="steps armed two"), NO_HUNTERS, (10, 1, 100), -401, "h")
        self.expect(hall_text(OPEN), HELD_KING, (10, 1, 100), 40, "k")

    def test_roads_on_the_edge_where_it_is_not_the_goal(self):
        ground = ["X......"] + ["......."] * 6
        self.expect(hall_text(ground, goal="exits"), KING_HOME, (0, 0, 1), -(3 + 2 + 6))
        rows = ["K......"] + ["......."] * 6
        self.expect(hall_text(ground, goal="exits"), rows, (0, 0, 1), 0)

    def test_the_greatest_and_least_weights(self):
        self.expect(rules_text(), PLAIN_START, (1000, -1000, 1000), 12000)
        self.expect(rules_text(), PLAIN_START, (-1000, 1000, -1000), -12000)


class OverAtTheBeginning(unittest.TestCase):

    def expect(self, text, rows, turn, worth):
        for n in range(5):
            self.assertEqual(last(rules(text), ahead(line(rows, turn), 1, 2, 3, n, 1)), [0, worth, 0])
            if n > 0:
                self.assertEqual(last(rules(text), each(line(rows, turn), 1, 2, 3, n, 1)), [0, 0])

    def test_by_1(self):
        for turn in "hk":
            self.expect(hall_text(OPEN), NO_KING, turn, 1000000)

    def test_by_2(self):
        for turn in "hk":
            self.expect(hall_text(OPEN), KING_HOME, turn, -1000000)
        ground = ["......X"] + ["......."] * 6
        rows = ["......K"] + ["......."] * 5 + ["h......"]
        for turn in "hk":
            self.expect(hall_text(ground, goal="exits"), rows, turn, -1000000)

    def test_by_3(self):
        self.expect(hall_text(OPEN, king="steps armed four"), HELD_KING, "k", 1000000)
        self.expect(hall_text(OPEN), NO_HUNTERS, "h", -1000000)

    def test_the_other_side_of_a_position_over_by_3_goes_on(self):
        answer = last(rules(hall_text(OPEN, king="steps armed four")), ahead(line(HELD_KING, "h")))
        self.assertEqual(answer[:3], [0, 0, 1])


class LookingAhead(unittest.TestCase):

    def test_none_ahead_is_weighed(self):
        self.assertEqual(last(rules(hall_text(OPEN)), ahead(line(LONE, "h"), 7, 0, 2, 0, 1)), [0, 7 - 24, 0])

    def test_one_ahead(self):
        # The hunter's best is to stand in the king's way: on d1 or on a4 it takes one of his roads.
        answer = last(rules(hall_text(OPEN)), ahead(line(LONE, "h"), 0, 0, 2))
        self.assertEqual(answer, [0, -22, 1, 3, cell("a1"), cell("d1"), 0])
        # Where roads are good for the hunters, the first move in order that takes none is told.
        answer = last(rules(hall_text(OPEN)), ahead(line(LONE, "h"), 0, 0, -2))
        self.assertEqual(answer, [0, 24, 1, 3, cell("a1"), cell("b1"), 0])

    def test_the_kings_side_goes_for_the_least(self):
        rows = [".......", ".......", ".......", "..hKh..", ".......", "...m...", "...h..."]
        text = hall_text(OPEN, king="steps bare two")
        # His steps are d5 and d3; c4 and e4 are held. On d5 he has d6, c5, e5, d4; on d3 only d4, c3, e3.
        answer = last(rules(text), ahead(line(rows, "k"), 0, 0, 1))
        self.assertEqual(answer[:3], [0, -4, 1])
        self.assertEqual(row_of(answer), [[cell("d4"), cell("d5"), 0]])

    def test_an_end_is_worth_less_the_later_it_comes(self):
        rows = ["......h", ".......", ".......", ".......", ".......", ".K.....", "......."]
        text = hall_text(OPEN, king="steps bare two")
        self.assertEqual(last(rules(text), ahead(line(rows, "k"), n=1))[1], -999999)
        self.assertEqual(last(rules(text), ahead(line(rows, "k"), n=2))[1], -999999)
        self.assertEqual(last(rules(text), ahead(line(rows, "h"), n=1))[1], 0)
        # Whatever the hunter does, a2 or b1 is left to him.
        answer = last(rules(text), ahead(line(rows, "h"), n=2))
        self.assertEqual(answer[1], -999998)
        self.assertEqual(row_of(answer)[1], [cell("b2"), cell("b1"), 2])

    def test_the_row_ends_where_it_is_over(self):
        rows = [".......", ".......", ".......", "..hK...", ".......", ".......", "....h.."]
        answer = last(rules(hall_text(OPEN)), ahead(line(rows, "h"), n=2))
        self.assertEqual(answer, [0, 999999, 1, 4, cell("e1"), cell("e4"), 1, cell("d4")])

    def test_ties_go_to_the_first_in_order(self):
        answer = last(rules(hall_text(OPEN)), ahead(line(LONE, "h"), n=1))
        self.assertEqual(row_of(answer), [[cell("a1"), cell("b1"), 0]])
        # Of two ways to win at once the first is told: c4 is behind him for e4, and d5 for d3.
        rows = [".......", ".......", "...h...", "..hK...", ".......", ".......", "h...h.."]
        answer = last(rules(hall_text(OPEN)), ahead(line(rows, "h"), n=1))
        self.assertEqual(row_of(answer), [[cell("e1"), cell("e4"), 1, cell("d4")]])

    def test_from_0_to_4_ahead(self):
        hall = plain.Hall(NARROW)
        for turn in "hk":
            told = line(NARROW_ROWS, turn)
            position = plain.position_of(hall, told)
            for n in range(5):
                count = plain.rows_up_to(hall, position, n, 600)
                self.assertLessEqual(count, 600)
                row = plain.row(hall, position, (5, 3, 1), n, 0)
                answer = last(rules(NARROW), ahead(told, 5, 3, 1, n, max(count, 1)))
                self.assertEqual(answer[1], plain.worth(hall, position, (5, 3, 1), n, 0))
                self.assertEqual(row_of(answer), row)
                self.assertEqual(len(row), n)

    def test_the_row_comes_to_what_is_told(self):
        """F2 and F3: the row, made, has the worth, and no first move has better."""
        hall = plain.Hall(NARROW)
        for turn in "hk":
            for weights in ((1, 1, 1), (0, 0, 0), (-7, 5, -3), (1000, -1000, 1000)):
                told = line(NARROW_ROWS, turn)
                position = plain.position_of(hall, told)
                answer = last(rules(NARROW), ahead(told, *weights, 4, 600))
                worths = last(rules(NARROW), each(told, *weights, 4, 600))[2:]
                self.assertEqual(answer[1], max(worths) if turn == "h" else min(worths))
                moves = plain.moves_of(hall, position)
                first = moves[worths.index(answer[1])]
                self.assertEqual(row_of(answer)[0][:2], [plain.number(at) for at in first])
                for begin, end, over, *taken in row_of(answer):
                    self.assertEqual(plain.over_of(hall, position), 0)
                    position, gone = plain.moved(hall, position, (begin % 13, begin // 13), (end % 13, end // 13))
                    self.assertEqual([plain.number(at) for at in gone], taken)
                    self.assertEqual(plain.over_of(hall, position), over)
                made = len(row_of(answer))
                self.assertEqual(plain.worth(hall, position, weights, 0, made), answer[1])

    def test_each_tells_what_each_move_is_worth(self):
        # The hunter on a1: b1 to g1, then a2 to a7; d1 and a4 stand in the king's way.
        self.assertEqual(last(rules(hall_text(OPEN)), each(line(LONE, "h"), 0, 0, 1)),
                         [0, 12, -12, -12, -11, -12, -12, -12, -12, -12, -11, -12, -12, -12])

    def test_each_tells_ends_by_one_move(self):
        rows = [".......", ".......", ".......", "..hK...", ".......", ".......", "....h.."]
        worths = last(rules(hall_text(OPEN)), each(line(rows, "h")))[2:]
        self.assertEqual([worth for worth in worths if worth != 0], [999999])
        rows = [".......", ".h.....", ".......", ".K.....", ".......", ".......", "......."]
        worths = last(rules(hall_text(OPEN, king="steps bare two")), each(line(rows, "k")))[2:]
        # b3, a4, c4, b5 in order; a4 is on the edge.
        self.assertEqual(worths, [0, -999999, 0, 0])


class HowManyMoves(unittest.TestCase):

    def expect_just(self, text, told, n, number):
        """Looking n ahead makes just this number of moves."""
        for call in (ahead, each):
            self.assertEqual(last(rules(text), call(told, n=n, most=number))[0], 0)
            if number > 1:
                self.assertEqual(last(rules(text), call(told, n=n, most=number - 1)), [-9])

    def test_one_ahead(self):
        self.expect_just(hall_text(OPEN), line(LONE, "h"), 1, 12)
        self.expect_just(hall_text(OPEN), line(LONE, "k"), 1, 12)

    def test_further_ahead_all_are_counted_together(self):
        hall = plain.Hall(NARROW)
        for turn in "hk":
            told = line(NARROW_ROWS, turn)
            counts = [plain.rows_up_to(hall, plain.position_of(hall, told), n, 600) for n in range(1, 5)]
            self.assertEqual(counts, sorted(set(counts)))
            for n, count in enumerate(counts, 1):
                self.expect_just(NARROW, told, n, count)

    def test_two_ahead_by_hand(self):
        ground = ["#####", "#...#", "#.#.#", "#.#.#", "##X##"]
        text = hall_text(ground, goal="exits", king="steps bare two")
        # The king on b4 has b3 and c4. The hunter on d2 has d3 and d4, then he has: b3, c4 each time.
        told = line([".....", ".K...", ".....", "...h.", "....."], "h")
        self.expect_just(text, told, 1, 2)
        self.expect_just(text, told, 2, 2 + 4)
        # Of him first: b3, then the hunter has d3 and d4; c4, then it has d3 and d4 too.
        told = line([".....", ".K...", ".....", "...h.", "....."], "k")
        self.expect_just(text, told, 1, 2)
        self.expect_just(text, told, 2, 2 + 4)

    def test_rows_are_not_gone_on_where_it_is_over(self):
        rows = [".......", ".......", ".......", "..hK...", ".......", ".......", "....h.."]
        text = hall_text(OPEN)
        hall = plain.Hall(text)
        count = plain.rows_up_to(hall, plain.position_of(hall, line(rows, "h")), 2, 600)
        self.assertLess(count, 600)
        self.expect_just(text, line(rows, "h"), 2, count)

    def test_none_ahead_makes_none(self):
        self.assertEqual(last(rules(rules_text()), ahead(line(PLAIN_START, "h"), n=0, most=1)), [0, 0, 0])

    def test_too_many_is_refused_soon(self):
        rows = ["h.h.h.h.h.h.h"] + [".h.h.h.h.h.h."] * 5 + ["......K......"] + ["m.h.h.h.h.h.m"] * 6
        text = hall_text(["." * 13] * 13)
        for n in range(1, 5):
            self.assertEqual(last(rules(text), ahead(line(rows, "h"), n=n, most=1)), [-9])
        self.assertEqual(last(rules(text), ahead(line(rows, "h"), n=4, most=600)), [-9])
        self.assertEqual(last(rules(text), each(line(rows, "k"), n=4, most=600)), [-9])


class Refusals(unittest.TestCase):

    def setUp(self):
        self.text = hall_text(OPEN)
        self.told = line(LONE, "h")

    def expect(self, call, answer, with_rules=True):
        calls = [rules(self.text), call] if with_rules else [call]
        self.assertEqual(last(*calls), answer)

    def test_without_rules(self):
        for call in (weigh(self.told), ahead(self.told), each(self.told)):
            self.expect(call, [-3], False)

    def test_without_rules_is_ahead_of_all(self):
        self.expect(weigh("x", 1001), [-3], False)
        self.expect(ahead("x", 1001, n=9, most=0), [-3], False)
        self.expect(each("", 1001, n=0, most=0), [-3], False)

    def test_a_lines_fault(self):
        for call in (weigh, ahead, each):
            self.expect(call("7/7/7x"), [-5, 1, 5])
            self.expect(call(""), [-5, 1, 0])

    def test_a_lines_fault_is_ahead_of_the_weights_and_all_behind(self):
        self.expect(weigh("7/x", 1001), [-5, 1, 2])
        self.expect(ahead("7/x", 0, 0, -1001, n=5, most=0), [-5, 1, 2])
        self.expect(each("7/x", 0, 1001, 0, n=0, most=601), [-5, 1, 2])

    def test_weights(self):
        for call in (weigh, ahead, each):
            for weight in (1001, -1001, 2147483647, -2147483648):
                for weights in ((weight, 0, 0), (0, weight, 0), (0, 0, weight)):
                    self.expect(call(self.told, *weights), [-8])
            for weight in (1000, -1000):
                for weights in ((weight, 0, 0), (0, weight, 0), (0, 0, weight)):
                    self.assertEqual(last(rules(self.text), call(self.told, *weights))[0], 0)

    def test_weights_are_ahead_of_the_bounds_and_of_too_many(self):
        self.expect(ahead(self.told, 1001, 0, 0, 5, 0), [-8])
        self.expect(each(self.told, 0, 0, 1001, 0, 0), [-8])
        self.expect(ahead(self.told, 0, -1001, 0, 1, 1), [-8])

    def test_bounds_of_ahead(self):
        for n in (5, 6, 600, 4294967295):
            self.expect(ahead(self.told, n=n), [-1])
        for most in (0, 601, 4294967295):
            for n in (0, 1, 4):
                self.expect(ahead(self.told, n=n, most=most), [-1])
        for n in (0, 1):
            self.assertEqual(last(rules(self.text), ahead(self.told, n=n, most=600))[0], 0)
        self.expect(ahead(self.told, n=0, most=1), [0, 0, 0])

    def test_bounds_of_each(self):
        for n in (0, 5, 6, 4294967295):
            self.expect(each(self.told, n=n), [-1])
        for most in (0, 601, 4294967295):
            for n in (1, 4):
                self.expect(each(self.told, n=n, most=most), [-1])
        self.assertEqual(last(rules(self.text), each(self.told, n=1, most=600))[0], 0)

    def test_bounds_hold_where_it_is_over_too(self):
        told = line(NO_KING, "h")
        for call in (ahead, each):
            self.expect(call(told, n=5), [-1])
            self.expect(call(told, most=0), [-1])
            self.expect(call(told, most=601), [-1])
        self.expect(each(told, n=0), [-1])

    def test_bounds_are_ahead_of_too_many(self):
        self.expect(ahead(self.told, n=5, most=1), [-1])
        self.expect(each(self.told, n=5, most=1), [-1])

    def test_too_many(self):
        for call in (ahead, each):
            self.expect(call(self.told, n=1, most=11), [-9])
            self.expect(call(self.told, n=1, most=1), [-9])
            self.expect(call(self.told, n=4, most=600), [-9])


if __name__ == "__main__":
    unittest.main()
