"""Moves, enmity, taking and the end, as ahead and each show them."""

import unittest

from tests.helpers import ahead, cell, each, hall_text, last, line, row_of, rules

OPEN = ["." * 7] * 7
SEAT_D4 = [".......", ".......", ".......", "...S...", ".......", ".......", "......."]
EXIT_D4 = [".......", ".......", ".......", "...X...", ".......", ".......", "......."]
WALL_D4 = [".......", ".......", ".......", "...#...", ".......", ".......", "......."]


class Moves(unittest.TestCase):

    def expect_number(self, text, rows, turn, number):
        """There are so many moves in the position, no more and no fewer."""
        self.assertEqual(len(last(rules(text), each(line(rows, turn)))), 2 + number, (text, rows))

    def test_a_hunter_goes_along_row_and_column(self):
        rows = [".......", ".......", ".......", "...K...", ".......", ".......", "h......"]
        self.expect_number(hall_text(OPEN), rows, "h", 12)
        rows = [".......", ".......", "h......", "...K...", "m......", ".......", "h.m...."]
        # From a1 one up and one to the right; from a5 two up, one down, six to the right.
        self.expect_number(hall_text(OPEN), rows, "h", 2 + 9)

    def test_only_the_side_whose_turn_it_is_moves(self):
        rows = [".......", ".......", ".......", "...K...", ".......", "m......", "h......"]
        # The man on a2 goes five up and six to the right, the king twelve ways.
        self.expect_number(hall_text(OPEN), rows, "k", 11 + 12)
        self.expect_number(hall_text(OPEN), rows, "h", 6)

    def test_a_king_who_steps(self):
        rows = [".......", ".......", "...h...", "...K...", ".......", ".......", "......."]
        self.expect_number(hall_text(OPEN, king="steps armed two"), rows, "k", 3)
        self.expect_number(hall_text(OPEN, king="slides armed two"), rows, "k", 3 + 3 + 3)

    def test_a_king_who_steps_leaves_men_to_slide(self):
        rows = [".......", ".......", ".......", "...K...", ".......", ".......", "m......"]
        self.expect_number(hall_text(OPEN, king="steps armed two"), rows, "k", 4 + 12)

    def test_the_seat_is_passed_or_barred(self):
        # From d1: d2 and d3, over d4 or not d5, d6 and d7; a1 to c1 and e1 to g1.
        rows = [".......", ".......", ".......", ".......", ".......", "mK.....", "...h..."]
        self.expect_number(hall_text(SEAT_D4, seat="passed quiet"), rows, "h", 5 + 6)
        self.expect_number(hall_text(SEAT_D4, seat="barred quiet"), rows, "h", 2 + 6)
        # The man goes as the hunter did; the king on b2 five up, one down, five to the right.
        rows = [".......", ".......", ".......", ".......", ".......", "hK.....", "...m..."]
        self.expect_number(hall_text(SEAT_D4, seat="passed quiet"), rows, "k", 11 + 5 + 6)
        self.expect_number(hall_text(SEAT_D4, seat="barred quiet"), rows, "k", 11 + 2 + 6)

    def test_the_king_on_the_seat_is_in_the_way(self):
        rows = [".......", ".......", ".......", "...K...", ".......", ".......", "...h..."]
        self.expect_number(hall_text(SEAT_D4, seat="passed quiet"), rows, "h", 2 + 6)

    def test_the_king_stops_on_a_barred_seat_and_goes_over_it(self):
        rows = [".......", ".......", ".......", ".K.....", ".......", ".......", "h......"]
        # From b4: three up, three down, a4, c4 to g4.
        self.expect_number(hall_text(SEAT_D4, seat="barred all"), rows, "k", 3 + 3 + 1 + 5)

    def test_hunters_and_men_neither_stop_on_exits_nor_go_over_them(self):
        rows = [".......", ".......", ".......", ".......", ".......", "mK.....", "...h..."]
        self.expect_number(hall_text(EXIT_D4), rows, "h", 2 + 6)
        rows = [".......", ".......", ".......", ".......", ".......", "hK.....", "...m..."]
        self.expect_number(hall_text(EXIT_D4), rows, "k", 11 + 2 + 6)

    def test_the_king_stops_on_exits_and_goes_over_them(self):
        rows = [".......", ".......", ".......", ".K.....", ".......", ".......", "h......"]
        self.expect_number(hall_text(EXIT_D4), rows, "k", 3 + 3 + 1 + 5)

    def test_nobody_goes_over_walls(self):
        rows = [".......", ".......", ".......", ".K.....", ".......", ".......", "...h..."]
        self.expect_number(hall_text(WALL_D4), rows, "k", 3 + 3 + 1 + 1)
        self.expect_number(hall_text(WALL_D4), rows, "h", 2 + 6)

    def test_the_order_of_moves(self):
        # By the king's roads the moves are told apart: of a1 b1, a4 a5, a4 a6 and a4 a7 only a6 takes him one away.
        ground = ["..#####", "...####", "..#####", ".######", "#######", "#######", "..#####"]
        rows = [".......", ".K.....", ".......", "h......", ".......", ".......", "h......"]
        self.assertEqual(last(rules(hall_text(ground)), each(line(rows, "h"), d=-1)), [0, 4, 4, 4, 3, 4])

    def test_the_order_goes_by_where_a_move_begins_and_then_by_where_it_ends(self):
        # All are worth 0, so the first in order is told: from the lowest cell, down before left before right.
        rows = [".......", "....h..", ".......", "..h....", ".......", ".K.....", "......."]
        found = last(rules(hall_text(OPEN)), ahead(line(rows, "h")))
        self.assertEqual(row_of(found), [[cell("c4"), cell("c1"), 0]])


class Taking(unittest.TestCase):

    def look(self, text, rows, turn, h=0, m=0):
        """What the side whose turn it is can take at best, in one move: the move, and what is left weighed."""
        found = last(rules(text), ahead(line(rows, turn), h=h, m=m))
        return row_of(found)[0], found[1]

    def expect_man_taken(self, text, rows, move):
        """The hunters' best move, where each man's loss counts 1."""
        self.assertEqual(self.look(text, rows, "h", m=1)[0], move)

    def expect_hunter_taken(self, text, rows, move):
        self.assertEqual(self.look(text, rows, "k", h=1)[0], move)

    def expect_none_taken(self, text, rows, turn):
        move, left = self.look(text, rows, turn, h=1, m=1)
        signs = "".join(rows)
        self.assertEqual((move[3:], left), ([], signs.count("h") - signs.count("m")))

    def test_a_man_between_two_hunters(self):
        rows = [".......", "...mh..", ".......", ".......", ".......", ".K.....", "..h...."]
        self.expect_man_taken(hall_text(OPEN), rows, [cell("c1"), cell("c6"), 0, cell("d6")])

    def test_a_man_who_goes_between_two_hunters_is_not_taken(self):
        rows = [".......", "..h.h..", ".......", ".......", ".......", ".K.....", "...m..."]
        found = last(rules(hall_text(OPEN)), each(line(rows, "k"), m=1))
        self.assertEqual(set(found[2:]) - {-1}, {-999999})

    def test_a_hunter_between_two_men(self):
        rows = [".......", "...hm..", ".......", ".......", "....K..", ".......", "..m...h"]
        self.expect_hunter_taken(hall_text(OPEN, king="steps bare two"), rows,
                                 [cell("c1"), cell("c6"), 0, cell("d6")])

    def test_in_each_direction(self):
        for rows, move in (
                ([".......", "...h...", "...m...", "h......", ".......", ".K.....", "......."],
                 [cell("a4"), cell("d4"), 0, cell("d5")]),
                ([".......", ".K.....", ".......", "h......", "...m...", "...h...", "......."],
                 [cell("a4"), cell("d4"), 0, cell("d3")]),
                (["...h...", ".......", "....mh.", ".......", ".......", ".K.....", "......."],
                 [cell("d7"), cell("d5"), 0, cell("e5")]),
                (["...h...", ".......", ".hm....", ".......", ".......", "....K..", "......."],
                 [cell("d7"), cell("d5"), 0, cell("c5")])):
            self.expect_man_taken(hall_text(OPEN), rows, move)

    def test_a_piece_on_the_edge_holds_like_any_other(self):
        rows = ["...h...", "...m...", ".......", "h......", ".......", ".K.....", "......."]
        self.assertEqual(self.look(hall_text(OPEN), rows, "h", m=1)[0][3:], [])
        rows = ["...h...", "...m...", "h......", ".......", ".......", ".K.....", "......."]
        self.expect_man_taken(hall_text(OPEN), rows, [cell("a5"), cell("d5"), 0, cell("d6")])
        rows = [".......", ".......", ".......", "......h", "..K....", "hm.....", "..h...."]
        self.expect_man_taken(hall_text(OPEN), rows, [cell("c1"), cell("c2"), 0, cell("b2")])

    def test_nobody_takes_his_own_or_an_empty_cell(self):
        steps = "steps armed two"
        # The man who comes to d5 has men, the king and empty cells around, and more of his side behind them.
        rows = ["...m...", ".......", ".mm..m.", "...K...", "...m...", ".......", "h......"]
        move, left = self.look(hall_text(OPEN, king=steps), rows, "k", h=1)
        self.assertEqual((move[3:], left), ([], 1))
        worths = last(rules(hall_text(OPEN, king=steps)), each(line(rows, "k"), h=100, m=1))[2:]
        self.assertEqual(set(worths), {95})
        rows = ["...h...", ".......", ".hh..h.", "...h...", "...h...", ".....K.", "......."]
        worths = last(rules(hall_text(OPEN, king=steps)), each(line(rows, "h"), h=100, m=1))[2:]
        self.assertEqual(set(worths), {600})
        answer = last(rules(hall_text(OPEN, king=steps)), ahead(line(rows, "h")))
        self.assertEqual(len(row_of(answer)[0]), 3)

    def test_nobody_is_taken_against_the_grounds_end_or_a_wall(self):
        rows = ["...m...", ".......", ".......", "h......", ".......", ".K.....", "......."]
        self.expect_none_taken(hall_text(OPEN, king="steps bare two"), rows, "h")
        rows = [".......", ".......", "...m...", ".......", "h......", ".K.....", "......."]
        self.expect_none_taken(hall_text(WALL_D4, king="steps bare two"), rows, "h")

    def test_a_man_against_the_seat(self):
        rows = [".......", "h......", "...m...", ".......", ".......", ".K.....", "......."]
        taken = [cell("a6"), cell("d6"), 0, cell("d5")]
        self.expect_man_taken(hall_text(SEAT_D4, seat="passed men"), rows, taken)
        self.expect_man_taken(hall_text(SEAT_D4, seat="barred all"), rows, taken)
        self.expect_none_taken(hall_text(SEAT_D4, seat="passed hunters", king="steps bare two"), rows, "h")
        self.expect_none_taken(hall_text(SEAT_D4, seat="passed quiet", king="steps bare two"), rows, "h")

    def test_the_seat_with_the_king_on_it_is_against_nobody(self):
        rows = [".......", "h......", "...m...", "...K...", ".......", ".......", "......."]
        self.expect_none_taken(hall_text(SEAT_D4, seat="passed all"), rows, "h")
        rows = [".......", "m......", "...h...", "...K...", ".......", ".......", "h......"]
        self.expect_none_taken(hall_text(SEAT_D4, seat="passed all", king="steps bare two"), rows, "k")

    def test_a_hunter_against_the_seat(self):
        rows = [".......", "m......", "...h...", ".......", "..K....", ".......", "......h"]
        taken = [cell("a6"), cell("d6"), 0, cell("d5")]
        steps = "steps bare two"
        self.expect_hunter_taken(hall_text(SEAT_D4, seat="passed hunters", king=steps), rows, taken)
        self.expect_hunter_taken(hall_text(SEAT_D4, seat="barred all", king=steps), rows, taken)
        self.expect_none_taken(hall_text(SEAT_D4, seat="passed men", king=steps), rows, "k")
        self.expect_none_taken(hall_text(SEAT_D4, seat="passed quiet", king=steps), rows, "k")

    def test_the_seat_that_the_king_has_just_left_is_against(self):
        # A hunter comes beside the man on c4, behind whom is d4, the seat: the king has gone from there or not.
        rows = [".......", ".......", ".......", "..mK...", ".......", ".......", ".h....."]
        text = hall_text(SEAT_D4, seat="passed men", king="steps bare four")
        self.expect_none_taken(text, rows, "h")
        worths = last(rules(text), each(line(rows, "k"), m=1, n=2))[2:]
        # By c1, c2, c3; c5, c6, c7; a4, b4 nobody is taken. When the king goes to d3, e4 or d5, the man on c4 is.
        self.assertEqual(sorted(worths), [-1] * 8 + [0] * 3)

    def test_a_man_against_an_exit(self):
        rows = [".......", "h......", "...m...", ".......", ".......", ".K.....", "......."]
        taken = [cell("a6"), cell("d6"), 0, cell("d5")]
        self.expect_man_taken(hall_text(EXIT_D4, exits="men"), rows, taken)
        self.expect_man_taken(hall_text(EXIT_D4, exits="all"), rows, taken)
        self.expect_none_taken(hall_text(EXIT_D4, exits="hunters", king="steps bare two"), rows, "h")
        self.expect_none_taken(hall_text(EXIT_D4, exits="quiet", king="steps bare two"), rows, "h")

    def test_a_hunter_against_an_exit(self):
        rows = [".......", "m......", "...h...", ".......", "..K....", ".......", "......h"]
        taken = [cell("a6"), cell("d6"), 0, cell("d5")]
        steps = "steps bare two"
        self.expect_hunter_taken(hall_text(EXIT_D4, exits="hunters", king=steps), rows, taken)
        self.expect_hunter_taken(hall_text(EXIT_D4, exits="all", king=steps), rows, taken)
        self.expect_none_taken(hall_text(EXIT_D4, exits="men", king=steps), rows, "k")
        self.expect_none_taken(hall_text(EXIT_D4, exits="quiet", king=steps), rows, "k")

    def test_an_exit_is_against_whoever_is_on_it(self):
        rows = [".......", "h......", "...m...", "...K...", ".......", ".......", "......."]
        self.expect_man_taken(hall_text(EXIT_D4, exits="men"), rows, [cell("a6"), cell("d6"), 0, cell("d5")])
        rows = [".......", "m......", "...h...", "...K...", ".......", ".......", "......h"]
        self.expect_hunter_taken(hall_text(EXIT_D4, exits="hunters", king="steps bare two"), rows,
                                 [cell("a6"), cell("d6"), 0, cell("d5")])

    def test_enmities_of_seat_and_exits_are_each_their_own(self):
        rows = [".......", "h......", "...m...", ".......", ".......", ".K.....", "......."]
        self.expect_none_taken(hall_text(SEAT_D4, seat="passed quiet", exits="all", king="steps bare two"), rows, "h")
        self.expect_none_taken(hall_text(EXIT_D4, seat="passed quiet", exits="quiet", king="steps bare two"), rows, "h")

    def test_the_king_behind_a_hunter(self):
        rows = [".......", "m......", "...h...", "...K...", ".......", ".......", "......h"]
        self.expect_hunter_taken(hall_text(OPEN, king="steps armed two"), rows,
                                 [cell("a6"), cell("d6"), 0, cell("d5")])
        self.expect_none_taken(hall_text(OPEN, king="steps bare two"), rows, "k")

    def test_the_king_takes_by_his_own_move(self):
        rows = [".......", "...m...", "...h...", ".......", "...K...", ".......", "......h"]
        self.expect_hunter_taken(hall_text(OPEN, king="steps armed two"), rows,
                                 [cell("d3"), cell("d4"), 0, cell("d5")])
        # A king who is bare doesn't, and the man can't from where he is.
        move = self.look(hall_text(OPEN, king="steps bare two"), rows, "k", h=1)[0]
        self.assertEqual(move[3:], [])

    def test_a_bare_king_takes_none_against_an_exit_either(self):
        ground = [".......", "...X...", ".......", ".......", ".......", ".......", "......."]
        rows = [".......", ".......", "...h...", ".......", "...K...", ".......", "......h"]
        self.expect_hunter_taken(hall_text(ground, exits="all", king="steps armed two"), rows,
                                 [cell("d3"), cell("d4"), 0, cell("d5")])
        self.expect_none_taken(hall_text(ground, exits="all", king="steps bare two"), rows, "k")

    def test_several_at_once(self):
        # The hunter comes to d5, with men on its left, right and lower side, and hunters behind each.
        rows = [".......", "...h...", ".hm.mh.", "...m...", "...h...", ".....K.", "......."]
        move, left = self.look(hall_text(OPEN), rows, "h", m=1)
        self.assertEqual(move, [cell("d6"), cell("d5"), 0, cell("d4"), cell("c5"), cell("e5")])
        self.assertEqual(left, 0)
        rows = [".......", "...m...", ".mh.hm.", "...h...", "...mK..", ".......", "h......"]
        move, left = self.look(hall_text(OPEN, king="steps bare two"), rows, "k", h=1)
        self.assertEqual(move, [cell("d6"), cell("d5"), 0, cell("d4"), cell("c5"), cell("e5")])
        self.assertEqual(left, 1)

    def test_the_king_and_men_at_once(self):
        rows = [".......", "...h...", ".hm.Kh.", "...m...", "...h...", ".......", "......."]
        move, left = self.look(hall_text(OPEN, king="slides armed two"), rows, "h", m=1)
        self.assertEqual(move, [cell("d6"), cell("d5"), 1, cell("d4"), cell("c5"), cell("e5")])
        self.assertEqual(left, 999999)


class Corners(unittest.TestCase):

    def test_the_last_cell_of_the_largest_ground(self):
        ground = ["." * 13] * 12 + ["X" + "." * 12]
        text = hall_text(ground, goal="exits", king="steps armed two")
        rows = ["." * 12 + "K"] + ["." * 13] * 11 + ["...h........."]
        self.assertEqual(last(rules(text), ahead(line(rows, "k"), 3, 0, 1)),
                         [0, 0, 1, 3, cell("m13"), cell("m12"), 0])
        ground = ["." * 12 + "S"] + ["." * 13] * 11 + ["X" + "." * 12]
        text = hall_text(ground, goal="exits", seat="passed all")
        rows = ["..........hm."] + ["." * 13] * 4 + ["...K........."] + ["." * 13] * 6 + ["...h........."]
        # Nobody comes to m13, so the man on l13 is not taken, and he himself can't go there.
        self.assertEqual(len(last(rules(text), each(line(rows, "k")))), 2 + 12 + (11 + 12))


class KingTaken(unittest.TestCase):

    def look(self, text, rows):
        found = last(rules(text), ahead(line(rows, "h")))
        return found[1], row_of(found)[0]

    def expect_taken(self, text, rows, begin, end, king):
        self.assertEqual(self.look(text, rows), (999999, [cell(begin), cell(end), 1, cell(king)]))

    def expect_not_taken(self, text, rows):
        worth, move = self.look(text, rows)
        self.assertEqual((worth, move[2]), (0, 0))

    def test_by_rule_two(self):
        rows = [".......", ".......", ".......", "..hK...", ".......", ".......", "....h.."]
        self.expect_taken(hall_text(OPEN, king="slides armed two"), rows, "e1", "e4", "d4")
        self.expect_not_taken(hall_text(OPEN, king="slides armed four"), rows)
        rows = [".......", ".......", ".......", "..mK...", ".......", ".......", "....h.."]
        self.expect_not_taken(hall_text(OPEN, king="slides armed two"), rows)

    def test_by_rule_two_against_the_seat_or_an_exit(self):
        rows = [".......", "h......", "...K...", ".......", ".......", ".......", "......."]
        for enmity, taken in (("men", True), ("all", True), ("hunters", False), ("quiet", False)):
            for text in (hall_text(SEAT_D4, seat="passed " + enmity), hall_text(EXIT_D4, exits=enmity)):
                if taken:
                    self.expect_taken(text, rows, "a6", "d6", "d5")
                else:
                    self.expect_not_taken(text, rows)

    def test_by_rule_two_not_against_a_wall_or_the_grounds_end(self):
        rows = [".......", "h......", "...K...", ".......", ".......", ".......", "......."]
        self.expect_not_taken(hall_text(WALL_D4), rows)
        ground = [".......", ".......", ".......", ".......", ".......", ".......", "X......"]
        rows = [".......", ".......", ".......", ".......", ".......", "h......", "...K..."]
        self.expect_not_taken(hall_text(ground, goal="exits"), rows)

    def test_by_rule_four(self):
        four = "slides armed four"
        rows = [".......", ".......", "...h...", "..hKh..", ".......", ".......", "...h..."]
        self.expect_taken(hall_text(OPEN, king=four), rows, "d1", "d3", "d4")
        rows = [".......", ".......", "...h...", "..mKh..", ".......", ".......", "...h..."]
        self.expect_not_taken(hall_text(OPEN, king=four), rows)
        rows = [".......", ".......", ".......", "..hKh..", ".......", ".......", "...h..."]
        self.expect_not_taken(hall_text(OPEN, king=four), rows)

    def test_by_rule_four_beside_the_edge(self):
        rows = [".......", ".......", ".......", ".......", ".h.....", "hK.....", ".hh...."]
        self.expect_taken(hall_text(OPEN, king="slides bare four"), rows, "c1", "c2", "b2")
        rows = ["....hh.", "....hKh", ".......", ".......", ".......", ".......", ".....h."]
        self.expect_taken(hall_text(OPEN, king="slides bare four"), rows, "f1", "f5", "f6")

    def test_by_rule_four_on_the_seat(self):
        rows = [".......", ".......", "...h...", "..hKh..", ".......", ".......", "...h..."]
        self.expect_taken(hall_text(SEAT_D4, king="slides armed four"), rows, "d1", "d3", "d4")

    def test_by_rule_four_against_the_seat_or_an_exit(self):
        rows = [".......", "...h...", "..hK...", ".......", ".......", ".......", "....h.."]
        for enmity, taken in (("men", True), ("all", True), ("hunters", False), ("quiet", False)):
            for text in (hall_text(SEAT_D4, seat="passed " + enmity, king="slides bare four"),
                         hall_text(EXIT_D4, exits=enmity, king="slides bare four")):
                if taken:
                    self.expect_taken(text, rows, "e1", "e5", "d5")
                else:
                    self.expect_not_taken(text, rows)

    def test_by_rule_four_not_beside_a_wall_or_on_the_edge(self):
        # The man on a7 can go: that keeps it from being over by 3.
        rows = ["m......", "...h...", "..hK...", ".......", ".......", ".......", "....h.."]
        self.expect_not_taken(hall_text(WALL_D4, king="slides bare four"), rows)
        ground = [".......", ".......", ".......", ".......", ".......", ".......", "X......"]
        rows = ["m......", ".......", ".......", ".......", ".......", "...h...", "..hK..h"]
        self.expect_not_taken(hall_text(ground, goal="exits", king="slides bare four"), rows)

    def test_a_king_held_all_around_is_taken_only_by_a_hunter_who_comes(self):
        rows = ["h......", ".......", "...h...", "..hKh..", "...h...", ".......", "m......"]
        text = hall_text(OPEN, king="slides armed four")
        worths = last(rules(text), each(line(rows, "h")))[2:]
        # Those around him go away, the one on a7 doesn't come near: nobody takes him.
        self.assertEqual(set(worths), {0})

    def test_a_king_who_goes_between_hunters_is_not_taken(self):
        rows = [".......", ".......", ".......", "..h.h..", ".......", "...K...", "......."]
        text = hall_text(OPEN, king="steps armed two")
        self.assertEqual(set(last(rules(text), each(line(rows, "k"), h=1))[2:]), {2, -999999})


class Over(unittest.TestCase):

    def look(self, text, rows, turn, n=1):
        found = last(rules(text), ahead(line(rows, turn), n=n))
        return found[1], row_of(found)

    def test_by_2_on_each_edge(self):
        for end, rows in (("d1", [".......", ".......", "...h...", "..hKh..", ".......", ".......", "......."]),
                          ("d7", [".......", ".......", ".......", "..hKh..", "...h...", ".......", "......."]),
                          ("a4", [".......", ".......", "...h...", "...Kh..", "...h...", ".......", "......."]),
                          ("g4", [".......", ".......", "...h...", "..hK...", "...h...", ".......", "......."])):
            worth, row = self.look(hall_text(OPEN, king="slides bare two"), rows, "k")
            self.assertEqual((worth, row), (-999999, [[cell("d4"), cell(end), 2]]))

    def test_by_2_on_an_exit(self):
        ground = [".......", ".......", ".......", ".......", ".......", ".......", "......X"]
        rows = [".......", ".......", ".......", "......K", ".......", ".......", "h......"]
        worth, row = self.look(hall_text(ground, goal="exits"), rows, "k")
        self.assertEqual((worth, row), (-999999, [[cell("g4"), cell("g1"), 2]]))
        # An exit that isn't the goal is a cell like others, and the edge, too, where the exits are the goal.
        rows = [".......", "h......", ".......", ".K.....", ".......", ".......", "......."]
        worth, row = self.look(hall_text(EXIT_D4, goal="edge", king="steps bare two"), rows, "k", 2)
        self.assertEqual((worth, len(row), row[0][2]), (-999999, 1, 2))
        worth, row = self.look(hall_text(EXIT_D4, goal="exits", king="slides bare two"), rows, "k")
        self.assertEqual((worth, row), (-999999, [[cell("b4"), cell("d4"), 2]]))

    def test_by_3_the_kings_side_has_no_move(self):
        text = hall_text(OPEN, king="steps bare four")
        # The man on d2 can go to both sides and down; the hunters can't hold him in one move.
        rows = [".......", ".......", ".......", "...h...", "..hKh..", "...m...", "..h.h.h"]
        self.assertEqual(self.look(text, rows, "h")[0], 0)
        # Now only d1 is left to him; the hunter of g1 goes there, and takes nobody: behind the man is the king.
        rows = [".......", ".......", ".......", "...h...", "..hKh..", "..hmh..", "......h"]
        worth, row = self.look(text, rows, "h")
        self.assertEqual((worth, row), (999999, [[cell("g1"), cell("d1"), 3]]))

    def test_by_3_the_hunters_have_no_move(self):
        rows = [".......", "...m...", "...h...", ".......", "...K...", ".......", "......."]
        # Their last hunter is taken, so it's over by 3 for the king's side.
        worth, row = self.look(hall_text(OPEN, king="steps armed two"), rows, "k")
        self.assertEqual((worth, row), (-999999, [[cell("d3"), cell("d4"), 3, cell("d5")]]))

    def test_1_is_ahead_of_3(self):
        rows = [".......", ".......", ".......", "..hK...", ".......", ".......", "....h.."]
        worth, row = self.look(hall_text(OPEN), rows, "h")
        # The king's side has no piece left, but it's over by 1.
        self.assertEqual((worth, row), (999999, [[cell("e1"), cell("e4"), 1, cell("d4")]]))

    def test_2_is_ahead_of_3(self):
        rows = [".......", ".......", ".......", ".......", "...m...", "...h...", "..K...."]
        ground = [".......", ".......", ".......", ".......", ".......", ".......", "...X..."]
        # By going to d1, an exit, the king takes the last hunter.
        worth, row = self.look(hall_text(ground, goal="exits", king="steps armed two"), rows, "k")
        self.assertEqual((worth, row), (-999999, [[cell("c1"), cell("d1"), 2, cell("d2")]]))


if __name__ == "__main__":
    unittest.main()
