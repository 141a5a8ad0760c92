"""Moves: where pieces go, whom they take, and when it's over."""

from taflahead.board import HUNTER, HUNTERS_TURN, KING, KINGS_TURN, MAN, NOBODY, NOWHERE, SEAT, Position

GOING_ON = 0
KING_TAKEN = 1
KING_AT_GOAL = 2
NO_MOVE = 3


class Made:
    """The position that a move comes to, and the cells whose pieces it took, rising."""

    def __init__(self, position, taken):
        self.position = position
        self.taken = taken


def reach(hall, board, cell):
    """The cells that the piece on this cell can be moved to."""
    is_king = board[cell] == KING
    ways = hall.king_ways[cell] if is_king else hall.ways[cell]
    found = []
    for way in ways:
        for further in way:
            if board[further] != NOBODY:
                break
            if is_king or further != hall.seat:
                found.append(further)
    return found


def is_of(piece, turn):
    """Whether the piece is one of the side whose turn that is."""
    if turn == HUNTERS_TURN:
        return piece == HUNTER
    return piece == MAN or piece == KING


def king_is_gone(hall, position):
    """Whether the king is taken or on the goal: then nobody moves any more."""
    return position.king == NOWHERE or hall.goals[position.king]


def moves(hall, position):
    """The moves, in order: where each begins and what cell it comes to."""
    if king_is_gone(hall, position):
        return []
    found = []
    for cell in hall.cells:
        if is_of(position.board[cell], position.turn):
            for further in sorted(reach(hall, position.board, cell)):
                found.append((cell, further))
    return found


def can_move(hall, position):
    """Whether some piece of the side whose turn it is can go anywhere."""
    for cell in hall.cells:
        if is_of(position.board[cell], position.turn) and len(reach(hall, position.board, cell)) > 0:
            return True
    return False


def over(hall, position):
    """What it's over by, or GOING_ON."""
    if position.king == NOWHERE:
        return KING_TAKEN
    if hall.goals[position.king]:
        return KING_AT_GOAL
    if not can_move(hall, position):
        return NO_MOVE
    return GOING_ON


def against(hall, board, cell, prey):
    """Whether the ground of the cell is against the prey, HUNTER or MAN; the king is preyed on as a man."""
    if hall.ground[cell] == SEAT and board[cell] != NOBODY:
        return False
    return (hall.enmity[cell] & prey) != 0


def closes_on_hunter(hall, board, cell):
    """Whether a hunter beside this cell is held by it when the king's side has come to his other side."""
    if board[cell] == MAN or board[cell] == KING and hall.armed == 1:
        return True
    return against(hall, board, cell, HUNTER)


def closes_on_man(hall, board, cell):
    """Whether one of the king's men, or he, is held by this cell beside him."""
    return board[cell] == HUNTER or against(hall, board, cell, MAN)


def king_surrounded(hall, board, king):
    """Whether the king has four neighbours and all of them hold him."""
    if len(hall.beside[king]) < 4:
        return False
    return all([closes_on_man(hall, board, cell) for cell in hall.beside[king]])


def taken_by_hunter(hall, board, cell):
    """The cells whose men, or king, are taken now that a hunter has come to this cell."""
    taken = []
    # A king with nothing behind him is on the edge, so he hasn't four neighbours: pairs are enough by either rule.
    for near, behind in hall.pairs[cell]:
        if board[near] == KING and hall.four == 1:
            if king_surrounded(hall, board, near):
                taken.append(near)
        elif is_of(board[near], KINGS_TURN) and closes_on_man(hall, board, behind):
            taken.append(near)
    return taken


def taken_by_kings_side(hall, board, cell):
    """The cells whose hunters are taken now that a man or the king has come to this cell."""
    if board[cell] == KING and hall.armed == 0:
        return []
    return [near for near, behind in hall.pairs[cell]
            if board[near] == HUNTER and closes_on_hunter(hall, board, behind)]


def make(hall, position, begin, end):
    """Make the move on a copy of the position."""
    board = list(position.board)
    board[end] = board[begin]
    board[begin] = NOBODY
    if position.turn == HUNTERS_TURN:
        taken = sorted(taken_by_hunter(hall, board, end))
    else:
        taken = sorted(taken_by_kings_side(hall, board, end))
    king = end if board[end] == KING else position.king
    if king in taken:
        king = NOWHERE
    # Only now do they go, so that each one taken still counted for the others.
    for cell in taken:
        board[cell] = NOBODY
    return Made(Position(board, king, 1 - position.turn), taken)
