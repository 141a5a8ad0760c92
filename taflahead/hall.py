"""The rules that an object has, laid out cell by cell, so that moves are looked up and not reckoned anew."""

from taflahead.board import ACROSS, CELLS, EXIT, NOWHERE, SEAT, WALL, on_edge
from taflahead.rulestext import GOAL_EXITS, ground_list


class Hall:
    """A hall's rules. What is told of each cell is a list by the cell's number.

    ways and king_ways: in each direction the cells that a piece could go over or stop on, were nobody there.
    beside: the neighbours. pairs: each neighbour that has a cell behind it, and that cell.
    """

    def __init__(self, told):
        self.wide = told.wide
        self.high = told.high
        self.armed = told.armed
        self.four = told.four
        self.cells = sorted([cell for cell, what, place in told.ground])
        self.ground = ground_list(told)
        self.seat = self.ground.index(SEAT) if SEAT in self.ground else NOWHERE
        self.enmity = [enmity_of(told, what) for what in self.ground]
        self.goals = [is_goal(told, cell, what) for cell, what in enumerate(self.ground)]
        self.beside = []
        self.pairs = []
        self.ways = []
        self.king_ways = []
        for cell in range(CELLS):
            rays = [ray(told, cell, 0, 1), ray(told, cell, 1, 0), ray(told, cell, 0, -1), ray(told, cell, -1, 0)]
            self.beside.append([cells[0] for cells in rays if len(cells) > 0])
            self.pairs.append([(cells[0], cells[1]) for cells in rays if len(cells) > 1])
            self.ways.append([way(told, self.ground, cells) for cells in rays])
            self.king_ways.append([king_way(told, self.ground, cells) for cells in rays])


def enmity_of(told, what):
    """Against whom such ground is."""
    if what == SEAT:
        return told.seat_enmity
    if what == EXIT:
        return told.exits_enmity
    return 0


def is_goal(told, cell, what):
    """Whether the king has come to the goal when he is on this cell."""
    if told.goal == GOAL_EXITS:
        return what == EXIT
    return on_edge(told.wide, told.high, cell)


def ray(told, cell, across, up):
    """The cells from this one on in a direction, the nearest first, to the ground's end."""
    cells = []
    x = cell % ACROSS + across
    y = cell // ACROSS + up
    while 0 <= x < told.wide and 0 <= y < told.high:
        cells.append(ACROSS * y + x)
        x += across
        y += up
    return cells


def way(told, ground, cells):
    """As many of the cells, from the first, as hunters and men may be on or go over."""
    passable = []
    for cell in cells:
        if ground[cell] == WALL or ground[cell] == EXIT:
            break
        if ground[cell] == SEAT and told.passed == 0:
            break
        passable.append(cell)
    return passable


def king_way(told, ground, cells):
    """As many of the cells, from the first, as the king may come to."""
    passable = []
    for cell in cells:
        if ground[cell] == WALL:
            break
        passable.append(cell)
    return passable if told.slides == 1 else passable[:1]
