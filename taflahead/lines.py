"""Positions' lines: their grammar, and pieces that stand where they may not."""

from taflahead.board import ACROSS, CELLS, HUNTER, KING, NOBODY, NOWHERE, Position, may_stand
from taflahead.faults import GrammarFault, LineFault
from taflahead.reader import Reader, is_digit


class Line:
    """The pieces of a line (cell, piece and place, as the line has them) and whose turn it is."""

    def __init__(self, reader, wide, high):
        self.pieces = []
        for y in range(high - 1, -1, -1):
            self.read_row(reader, wide, y)
            if y > 0:
                reader.word("/")
        reader.word(" ")
        self.turn = reader.choice("h k")
        reader.finish()

    def read_row(self, reader, wide, y):
        """Read numbers and pieces until the row is full."""
        x = 0
        behind_number = False
        while x < wide:
            if is_digit(reader.sign()) and not behind_number:
                x += reader.number(1, wide - x)
                behind_number = True
            else:
                place = reader.place
                piece = HUNTER + reader.choice(self.piece_signs())
                self.pieces.append((ACROSS * y + x, piece, place))
                x += 1
                behind_number = False

    def piece_signs(self):
        """The signs that may come, a second K not being among them."""
        kings = [cell for cell, piece, place in self.pieces if piece == KING]
        return "h m K" if len(kings) == 0 else "h m"


def read_position(hall, line):
    """The position of a line that is right; a LineFault if it isn't."""
    try:
        told = Line(Reader(line), hall.wide, hall.high)
    except GrammarFault as e:
        raise LineFault(1, e.place) from e
    board = [NOBODY] * CELLS
    king = NOWHERE
    for cell, piece, place in told.pieces:
        if not may_stand(hall.ground[cell], piece):
            raise LineFault(2, place)
        board[cell] = piece
        if piece == KING:
            king = cell
    return Position(board, king, told.turn)
