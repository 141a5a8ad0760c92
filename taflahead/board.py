"""Cells, what lies on them, who stands on them, and positions."""

# A row of cell numbers is 13 long however wide the ground is.
ACROSS = 13
CELLS = 169

PLAIN = 0
SEAT = 1
EXIT = 2
WALL = 3

# HUNTER and MAN are also the bits of an enmity: 1 against hunters, 2 against men, 3 against all.
NOBODY = 0
HUNTER = 1
MAN = 2
KING = 3

HUNTERS_TURN = 0
KINGS_TURN = 1

# In the place of a cell: the king's who is taken, or the seat's where there is none. No cell has this number.
NOWHERE = 169


class Position:
    """Who stands on each cell (a list by the cell's number), where the king is, whose turn it is."""

    def __init__(self, board, king, turn):
        self.board = board
        self.king = king
        self.turn = turn


def may_stand(ground, piece):
    """Whether a position that is right may have the piece on such ground."""
    if piece == NOBODY or ground == PLAIN:
        return True
    return piece == KING and ground != WALL


def on_edge(wide, high, cell):
    """Whether the cell is one of the outermost of the ground."""
    x = cell % ACROSS
    y = cell // ACROSS
    return x == 0 or y == 0 or x == wide - 1 or y == high - 1
