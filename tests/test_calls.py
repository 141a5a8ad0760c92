"""Several calls on one object, and what the function promises of its list."""

import unittest

from tests.helpers import PLAIN_START, ahead, each, hall_text, line, rules, rules_text, run, weigh
from taflahead.looking import answers

SMALL = hall_text(["....."] * 5, king="steps armed two")
SMALL_LINE = "5/1h3/2K2/5/5 h"
PLAIN_LINE = line(PLAIN_START, "h")


def joined(*calls):
    return [number for call in calls for number in call]


class Calls(unittest.TestCase):

    def test_answers_are_written_with_their_lengths(self):
        calls = joined(weigh(SMALL_LINE), rules(SMALL), weigh(SMALL_LINE, 3, 0, 1), weigh("x"), rules("x"),
                       ahead(SMALL_LINE, 0, 0, 0, 0, 1), ahead("5/5/2K2/4h/5 h", n=1),
                       each("5/5/2K2/4h/5 k", 1), each(SMALL_LINE, n=0), ahead(SMALL_LINE, most=1))
        self.assertEqual(answers(calls), [
            1, -3,
            1, 0,
            2, 0, 3 - 4,
            3, -5, 1, 0,
            3, -6, 1, 0,
            3, 0, 0, 0,
            7, 0, 0, 1, 3, 17, 4, 0,
            6, 0, 4, 1, 1, 1, 1,
            1, -1,
            1, -9])

    def test_a_refused_text_leaves_the_rules_as_they_were(self):
        wrong = [rules_text()[:-1], "", rules_text(goal="exits"), rules_text(seat="passed all", limit=0)]
        asked = [weigh(SMALL_LINE, 3, 0, 1), ahead(SMALL_LINE, 1, 2, 3, 1, 600), each(SMALL_LINE, 1, 2, 3, 2, 600)]
        before = run(rules(SMALL), *asked)[1:]
        for text in wrong:
            found = run(rules(SMALL), rules(text), *asked)
            self.assertEqual(found[1][0], -6)
            self.assertEqual(found[2:], before)

    def test_a_refused_text_gives_no_rules(self):
        self.assertEqual(run(rules(SMALL[:-1]), weigh(SMALL_LINE)), [[-6, 1, len(SMALL) - 1], [-3]])

    def test_a_right_text_after_another_takes_its_place(self):
        found = run(rules(SMALL), weigh(SMALL_LINE), weigh(PLAIN_LINE), rules(rules_text()), weigh(SMALL_LINE),
                    weigh(PLAIN_LINE), rules(SMALL), weigh(SMALL_LINE))
        self.assertEqual(found, [[0], [0, 0], [-5, 1, 4], [0], [-5, 1, 1], [0, 0], [0], [0, 0]])

    def test_a_right_text_takes_the_place_of_each_word(self):
        ground = ["......."] * 7
        rows = [".......", "h......", "...m...", "..h....", ".......", ".K.....", "......."]
        with_seat = list(ground)
        with_seat[3] = "...S..."
        texts = [hall_text(ground), hall_text(with_seat, seat="barred men", king="steps bare four"),
                 hall_text(with_seat, seat="passed quiet"), hall_text(ground, king="steps armed two")]
        told = [each(line(rows, turn), 5, 3, 1) for turn in "hk"]
        alone = [run(rules(text), *told)[1:] for text in texts]
        self.assertEqual(len({str(answer) for answer in alone}), 4)
        for first in range(4):
            for second in range(4):
                found = run(rules(texts[first]), *told, rules(texts[second]), *told)
                self.assertEqual(found, [[0], *alone[first], [0], *alone[second]])

    def test_refused_calls_change_nothing(self):
        asked = [weigh(SMALL_LINE, 3, 2, 1), ahead(SMALL_LINE, 3, 2, 1, 2, 600), each(SMALL_LINE, 3, 2, 1, 2, 600)]
        refused = [rules("tafl"), weigh("x"), weigh(SMALL_LINE, 1001), ahead(SMALL_LINE, n=5), each(SMALL_LINE, n=0),
                   ahead(SMALL_LINE, most=1), each(SMALL_LINE, n=3, most=2)]
        plain = run(rules(SMALL), *asked)[1:]
        for call in refused:
            found = run(rules(SMALL), call, *asked, call, *asked)
            self.assertLess(found[1][0], 0)
            self.assertEqual(found[2:5] + found[6:], plain + plain)

    def test_asking_changes_nothing(self):
        asked = [ahead(SMALL_LINE, 3, 2, 1, 2, 600), each(SMALL_LINE, 3, 2, 1, 2, 600), weigh(SMALL_LINE, 1)]
        found = run(rules(SMALL), *asked, *asked, *asked)[1:]
        self.assertEqual(found[:3], found[3:6])
        self.assertEqual(found[:3], found[6:])

    def test_the_list_handed_in_is_the_same_afterwards(self):
        calls = joined(rules(SMALL), weigh(SMALL_LINE, 1), rules("no"), ahead(SMALL_LINE, 1, 2, 3, 2, 600),
                       each(SMALL_LINE, 1, 2, 3, 2, 600), weigh("5/x"))
        kept = list(calls)
        told = answers(calls)
        self.assertEqual(calls, kept)
        self.assertIsNot(told, calls)

    def test_the_list_handed_in_is_never_changed(self):
        """Not for a while either: whatever would change it fails."""

        class Unchanging(list):
            def refuse(self, *told, **named):
                raise AssertionError("the list was changed")

            append = extend = insert = pop = remove = reverse = sort = clear = refuse
            __setitem__ = __delitem__ = __iadd__ = __imul__ = refuse

        calls = joined(rules(SMALL), weigh(SMALL_LINE, 1), rules("no"), ahead(SMALL_LINE, 1, 2, 3, 2, 600),
                       each(SMALL_LINE, 1, 2, 3, 2, 600), weigh("5/x"))
        self.assertEqual(answers(Unchanging(calls)), answers(calls))

    def test_nothing_is_kept_from_one_time_to_the_next(self):
        calls = joined(rules(SMALL), weigh(SMALL_LINE, 1, 2, 3), ahead(SMALL_LINE, 1, 2, 3, 2, 600))
        first = answers(calls)
        kept = list(first)
        self.assertEqual(answers(weigh(SMALL_LINE)), [1, -3])
        self.assertEqual(answers(calls), kept)
        first.append(5)
        self.assertEqual(answers(calls), kept)

    def test_whole_numbers_alone_are_given_back(self):
        calls = joined(rules(SMALL), weigh(SMALL_LINE, 1, 2, 3), ahead(SMALL_LINE, 1, 2, 3, 2, 600),
                       each(SMALL_LINE, 1, 2, 3, 2, 600), rules(""), weigh(""), each(SMALL_LINE, n=0))
        told = answers(calls)
        self.assertIs(type(told), list)
        self.assertEqual({type(number) for number in told}, {int})

    def test_as_many_calls_as_there_may_be(self):
        calls = [rules(SMALL)] + [weigh(SMALL_LINE, 1)] * 299
        self.assertEqual(run(*calls), [[0]] + [[0, 1]] * 299)

    def test_as_long_a_list_as_there_may_be(self):
        text = SMALL + " " * (29000 - len(SMALL))
        self.assertEqual(run(rules(text), rules(SMALL), weigh(SMALL_LINE, 1)), [[-6, 1, len(SMALL)], [0], [0, 1]])
        self.assertEqual(run(rules(SMALL), weigh("h" * 29000)), [[0], [-5, 1, 5]])


if __name__ == "__main__":
    unittest.main()
