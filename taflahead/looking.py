"""The calls on one object, and their answers."""

from taflahead.faults import BoundsFault, LineFault, NoRules, TextFault, TooManyMoves, WeightFault
from taflahead.hall import Hall
from taflahead.lines import read_position
from taflahead.rulestext import read_rules
from taflahead.search import Search, weighed

RULES = 0
WEIGH = 1
AHEAD = 2

# By a call's number: how many whole numbers stand before its row.
NUMBERS = (0, 3, 5, 5)

GREATEST_WEIGHT = 1000
FURTHEST = 4
MOST_MOVES = 600


class Looker:
    """The object that the calls are on: it keeps its rules, or None."""

    def __init__(self):
        self.hall = None

    def take_rules(self, text):
        """The call rules."""
        self.hall = Hall(read_rules(text))
        return [0]

    def weigh(self, numbers, line):
        """The call weigh."""
        position = self.told_position(numbers, line)
        return [0, weighed(self.hall, position, numbers[:3])]

    def look_ahead(self, numbers, line):
        """The call ahead."""
        position = self.told_position(numbers, line)
        check_bounds(numbers, 0)
        found = self.new_search(numbers).look(position, numbers[3], 0)
        answer = [0, found.worth, len(found.row)]
        for move in found.row:
            answer.append(len(move))
            answer.extend(move)
        return answer

    def look_by_each_move(self, numbers, line):
        """The call each."""
        position = self.told_position(numbers, line)
        check_bounds(numbers, 1)
        tries = self.new_search(numbers).look_by_each(position, numbers[3], 0)
        return [0, len(tries)] + [found.worth for found in tries]

    def told_position(self, numbers, line):
        """The line's position, seen to in the order of the refusals: rules, line, weights."""
        if self.hall is None:
            raise NoRules()
        position = read_position(self.hall, line)
        for weight in numbers[:3]:
            if abs(weight) > GREATEST_WEIGHT:
                raise WeightFault()
        return position

    def new_search(self, numbers):
        """A search by the weights and the most moves that were told."""
        return Search(self.hall, numbers[:3], numbers[4])


def check_bounds(numbers, least):
    """See that n is from least on and not too far, and that most is one that is allowed."""
    if not least <= numbers[3] <= FURTHEST or not 1 <= numbers[4] <= MOST_MOVES:
        raise BoundsFault()


def answer_call(looker, call, numbers, row):
    """What the object answers to the call, if it doesn't refuse."""
    if call == RULES:
        return looker.take_rules(row)
    if call == WEIGH:
        return looker.weigh(numbers, row)
    if call == AHEAD:
        return looker.look_ahead(numbers, row)
    return looker.look_by_each_move(numbers, row)


def answer_or_refuse(looker, call, numbers, row):
    """What the object answers to the call, be it a refusal."""
    try:
        return answer_call(looker, call, numbers, row)
    except TextFault as e:
        return [-6, e.kind, e.place]
    except LineFault as e:
        return [-5, e.kind, e.place]
    except NoRules:
        return [-3]
    except WeightFault:
        return [-8]
    except BoundsFault:
        return [-1]
    except TooManyMoves:
        return [-9]


def answers(calls):
    """The answers to the calls on a new object, each with how many numbers it has before it."""
    looker = Looker()
    told = []
    place = 0
    while place < len(calls):
        call = calls[place]
        row_at = place + 1 + NUMBERS[call]
        numbers = calls[place + 1:row_at]
        behind = row_at + 1 + calls[row_at]
        answer = answer_or_refuse(looker, call, numbers, calls[row_at + 1:behind])
        told.append(len(answer))
        told.extend(answer)
        place = behind
    return told
