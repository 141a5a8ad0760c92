"""The program against the document's words done plainly, on many halls, texts, lines and positions.

The chances are drawn from fixed seeds: every run tests the same.
"""

import random
import unittest

from tests import plain
from tests.helpers import ahead, apart, each, line, rules, rules_text, run, weigh
from taflahead.looking import answers

SIGNS = "tafl groundsKhmSX#./\n 0123456789k"


def some_ground(draw, wide, high, walls, exits):
    rows = [[draw.choices(".#X", (10, walls, exits))[0] for _ in range(wide)] for _ in range(high)]
    if draw.random() < 0.8:
        rows[draw.randrange(high)][draw.randrange(wide)] = "S"
    return ["".join(row) for row in rows]


def some_rows(draw, ground, hunters, men, king):
    """Pieces where a position that's right may have them."""
    rows = [["." if sign != "." else draw.choices(".hm", (10, hunters, men))[0] for sign in row] for row in ground]
    if king:
        free = [(y, x) for y, row in enumerate(ground) for x, sign in enumerate(row) if sign != "#"]
        inner = [(y, x) for y, x in free if 0 < y < len(ground) - 1 and 0 < x < len(ground[0]) - 1]
        y, x = draw.choice(inner if inner and draw.random() < 0.9 else free)
        rows[y][x] = "K"
    return ["".join(row) for row in rows]


def some_words(draw):
    return {
        "first": draw.choice(["hunters", "king"]),
        "king": " ".join([draw.choice(["slides", "steps"]), draw.choice(["armed", "bare"]),
                          draw.choice(["two", "four"])]),
        "seat": draw.choice(["passed", "barred"]) + " " + draw.choice(plain.ENMITIES),
        "exits": draw.choice(plain.ENMITIES),
        "goal": draw.choice(["edge", "exits"]),
        "thrice": draw.choice(["drawn", "hunters", "king"]),
        "limit": draw.randint(1, 60000),
    }


def some_text(draw, wide, high, walls=2, exits=1):
    """A text of the grammar that's right more often than not."""
    ground = some_ground(draw, wide, high, walls, exits)
    return rules_text(ground, some_rows(draw, ground, 3, 2, draw.random() < 0.95), **some_words(draw))


def right_text(draw, wide, high, walls, exits):
    while True:
        text = some_text(draw, wide, high, walls, exits)
        if plain.text_fault(text) is None:
            return text


def changed(draw, text):
    """The text with something at one place put in, left out, put otherwise, or cut off there."""
    at = draw.randrange(len(text) + 1)
    how = draw.randrange(4)
    sign = draw.choice(SIGNS)
    if how == 0:
        return text[:at] + sign + text[at:]
    if how == 1:
        return text[:at] + text[at + 1:]
    if how == 2:
        return text[:at] + sign + text[at + 1:]
    return text[:at]


class AgainstPlain(unittest.TestCase):

    def expect_rules(self, text):
        fault = plain.text_fault(text)
        self.assertEqual(run(rules(text)), [[0] if fault is None else [-6, *fault]], text)
        return fault

    def test_texts(self):
        draw = random.Random(1)
        kinds = set()
        for _ in range(1500):
            text = some_text(draw, draw.randint(5, 13), draw.randint(5, 13), draw.choice([0, 1, 3]), draw.choice([0, 1]))
            kinds.add((self.expect_rules(text) or (0,))[0])
        self.assertEqual(kinds, {0, 3, 5, 6})

    def test_texts_with_faults_put_in(self):
        draw = random.Random(2)
        kinds = set()
        for _ in range(1500):
            text = right_text(draw, draw.randint(5, 7), draw.randint(5, 7), 1, 1)
            rows = text.split("\n")
            for _ in range(draw.randint(1, 3)):
                y = draw.choice([y for y, row in enumerate(rows) if row and set(row) <= set(".SX#hmK")])
                x = draw.randrange(len(rows[y]))
                known = ".SX#" if y < rows.index("start") else ".hmK"
                rows[y] = rows[y][:x] + draw.choice(known) + rows[y][x + 1:]
            kinds.add((self.expect_rules("\n".join(rows)) or (0,))[0])
        self.assertEqual(kinds, {0, 2, 3, 4, 5, 6})

    def test_texts_that_leave_the_grammar(self):
        draw = random.Random(3)
        for _ in range(3000):
            self.expect_rules(changed(draw, some_text(draw, draw.randint(5, 13), draw.randint(5, 13))))

    def test_lines(self):
        draw = random.Random(4)
        kinds = set()
        for _ in range(60):
            text = right_text(draw, draw.randint(5, 13), draw.randint(5, 7), 1, 1)
            hall = plain.Hall(text)
            lines = []
            for _ in range(40):
                rows = ["".join(draw.choices(".hm", (20, 1, 1))[0] for _ in range(hall.wide)) for _ in range(hall.high)]
                if draw.random() < 0.3:
                    rows = some_rows(draw, hall.ground, 1, 1, True)
                told = line(rows, draw.choice("hk"))
                while draw.random() < 0.6:
                    told = changed(draw, told)
                lines.append(told)
            found = run(rules(text), *[weigh(told) for told in lines])
            for told, answer in zip(lines, found[1:]):
                fault = plain.line_fault(hall, told)
                kinds.add((fault or (0,))[0])
                if fault is None:
                    self.assertEqual(answer[0], 0, (text, told))
                else:
                    self.assertEqual(answer, [-5, *fault], (text, told))
        self.assertEqual(kinds, {0, 1, 2})

    def expect_looking(self, text, told, weights, n, seen):
        """All of weigh, ahead and each for a position; seen gathers what has come about."""
        hall = plain.Hall(text)
        position = plain.position_of(hall, told)
        count = plain.rows_up_to(hall, position, n, 600)
        calls = [weigh(told, *weights)]
        expected = [[0, plain.weighed(hall, position, weights)]]
        if count <= 600:
            row = plain.row(hall, position, weights, n, 0)
            worths = plain.each(hall, position, weights, n) if n > 0 else []
            written = [number for move in row for number in [len(move), *move]]
            worth = plain.worth(hall, position, weights, n, 0)
        for most in (count - 1, count, 600):
            calls.append(ahead(told, *weights, n, most))
            calls.append(each(told, *weights, n, most))
            if not 1 <= most <= 600:
                expected += [[-1], [-1]]
                continue
            if count > most:
                expected += [[-9], [-9]]
                continue
            expected.append([0, worth, len(row), *written])
            expected.append([0, len(worths), *worths])
            seen.add(("n", n, len(row)))
            for move in row:
                seen.add(("over", move[2]))
                seen.add(("taken", len(move) - 3))
        if n == 0:
            expected = [[-1] if call[0] == 3 else answer for call, answer in zip(calls, expected)]
        if count > 600:
            seen.add("beyond")
        self.assertEqual(run(rules(text), *calls), [[0], *expected], (text, told, weights, n))

    def look_at_some(self, draw, text, hunters, men, n, seen):
        hall = plain.Hall(text)
        rows = some_rows(draw, hall.ground, hunters, men, draw.random() < 0.97)
        weights = [draw.choice([0, 1, -1, draw.randint(-1000, 1000)]) for _ in range(3)]
        self.expect_looking(text, line(rows, draw.choice("hk")), weights, n, seen)

    def test_looking_a_little_ahead(self):
        draw = random.Random(5)
        seen = set()
        for _ in range(400):
            text = right_text(draw, draw.randint(5, 8), draw.randint(5, 8), draw.choice([0, 2]), draw.choice([0, 1, 2]))
            self.look_at_some(draw, text, draw.choice([2, 6, 15]), draw.choice([1, 5]), draw.randint(0, 2), seen)
        for wanted in [("over", 1), ("over", 2), ("over", 3), ("taken", 1), ("taken", 2), ("n", 2, 2), "beyond"]:
            self.assertIn(wanted, seen)

    def test_looking_far_ahead_where_it_is_narrow(self):
        draw = random.Random(6)
        seen = set()
        for _ in range(250):
            text = right_text(draw, 5, draw.randint(5, 6), draw.choice([8, 14]), draw.choice([1, 3]))
            self.look_at_some(draw, text, draw.choice([3, 10]), draw.choice([2, 10]), draw.randint(2, 4), seen)
        for wanted in [("over", 1), ("over", 2), ("over", 3), ("taken", 1), ("n", 3, 3), ("n", 4, 4)]:
            self.assertIn(wanted, seen)

    def test_wide_grounds(self):
        draw = random.Random(7)
        seen = set()
        for _ in range(40):
            text = right_text(draw, draw.randint(9, 13), draw.randint(9, 13), 1, 1)
            self.look_at_some(draw, text, 3, 2, draw.randint(0, 1), seen)
        self.assertIn(("n", 1, 1), seen)

    def test_the_whole_list_is_read_and_answered_in_order(self):
        draw = random.Random(8)
        text = right_text(draw, 5, 5, 2, 1)
        hall = plain.Hall(text)
        lines = [line(some_rows(draw, hall.ground, 3, 2, True), "h") for _ in range(100)]
        calls = rules(text) + [number for told in lines for number in weigh(told, 7, 5, 3)]
        expected = [[0, plain.weighed(hall, plain.position_of(hall, told), (7, 5, 3))] for told in lines]
        self.assertEqual(apart(answers(calls)), [[0], *expected])


if __name__ == "__main__":
    unittest.main()
