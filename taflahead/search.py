"""Weighing positions and looking ahead from them."""

from taflahead.board import HUNTER, HUNTERS_TURN, KINGS_TURN, MAN
from taflahead.faults import TooManyMoves
from taflahead.moves import GOING_ON, KING_TAKEN, NO_MOVE, king_is_gone, make, moves, over, reach

WON = 1000000


class Found:
    """What looking ahead has found of a position: what it's over by, its worth, and its row of moves."""

    def __init__(self, over_by, worth, row):
        self.over_by = over_by
        self.worth = worth
        self.row = row


def weighed(hall, position, weights):
    """What the position weighs, for the hunters, by the weights hunter, man and road."""
    board = position.board
    roads = 0 if king_is_gone(hall, position) else len(reach(hall, board, position.king))
    return weights[0] * board.count(HUNTER) - weights[1] * board.count(MAN) - weights[2] * roads


def end_worth(over_by, turn, done):
    """The worth of a position that's over, so many moves having been made."""
    hunters_won = over_by == KING_TAKEN or over_by == NO_MOVE and turn == KINGS_TURN
    return WON - done if hunters_won else done - WON


def better(turn, worth, other):
    """Whether the side whose turn it is would rather have this worth than the other."""
    return worth > other if turn == HUNTERS_TURN else worth < other


def first_best(turn, tries):
    """The first of those that have the best worth for the side whose turn it is."""
    best = tries[0]
    for found in tries:
        if better(turn, found.worth, best.worth):
            best = found
    return best


class Search:
    """Looking ahead by a hall's rules and by weights, with so many moves left to be made."""

    def __init__(self, hall, weights, most):
        self.hall = hall
        self.weights = weights
        self.left = most

    def look(self, position, ahead, done):
        """What is found of the position so many moves ahead, so many having been made."""
        over_by = over(self.hall, position)
        if over_by != GOING_ON:
            return Found(over_by, end_worth(over_by, position.turn, done), [])
        if ahead == 0:
            return Found(GOING_ON, weighed(self.hall, position, self.weights), [])
        return first_best(position.turn, self.look_by_each(position, ahead, done))

    def look_by_each(self, position, ahead, done):
        """For each move of the position, in order, what would be found of it, were that its best move."""
        choices = moves(self.hall, position)
        self.left -= len(choices)
        if self.left < 0:
            raise TooManyMoves()
        tries = []
        for begin, end in choices:
            made = make(self.hall, position, begin, end)
            found = self.look(made.position, ahead - 1, done + 1)
            move = [begin, end, found.over_by] + made.taken
            tries.append(Found(GOING_ON, found.worth, [move] + found.row))
        return tries
