"""Rules' texts: their grammar, and what else they may be at fault by."""

from taflahead.board import ACROSS, CELLS, EXIT, HUNTER, KING, PLAIN, SEAT, may_stand, on_edge
from taflahead.faults import GrammarFault, TextFault
from taflahead.reader import Reader, is_digit, is_letter

GOAL_EXITS = 1
QUIET = 0
LONGEST_NAME = 16


class RulesText:
    """What a text of the grammar says of the game, and the places where it may still be at fault.

    Who is first, what comes of a thrice and the limit are read for the grammar's sake alone: no call asks for them.
    """

    def __init__(self, reader):
        reader.word("tafl ")
        read_name(reader)
        reader.word(" ")
        self.wide = reader.number(5, 13)
        reader.word(" ")
        self.high = reader.number(5, 13)
        reader.word("\nground\n")
        self.ground = read_rows(reader, ". S X #", self.wide, self.high)
        reader.word("start\n")
        self.start = read_rows(reader, ". h m K", self.wide, self.high)
        reader.word("first ")
        reader.choice("hunters king")
        reader.word("\nking ")
        self.slides = reader.choice("steps slides")
        reader.word(" ")
        self.armed = reader.choice("bare armed")
        reader.word(" ")
        self.four = reader.choice("two four")
        reader.word("\nseat ")
        self.passed = reader.choice("barred passed")
        reader.word(" ")
        self.seat_enmity = reader.choice("quiet hunters men all")
        reader.word("\nexits ")
        self.exits_enmity = reader.choice("quiet hunters men all")
        reader.word("\ngoal ")
        self.goal_place = reader.place
        self.goal = reader.choice("edge exits")
        reader.word("\nthrice ")
        reader.choice("drawn hunters king")
        reader.word("\nlimit ")
        reader.number(1, 60000)
        reader.word("\n")
        self.length = reader.place
        reader.finish()


def read_name(reader):
    """Read a letter, then letters and digits as long as a name may go on."""
    if not is_letter(reader.sign()):
        raise GrammarFault(reader.place)
    size = 0
    while size < LONGEST_NAME and (is_letter(reader.sign()) or is_digit(reader.sign())):
        reader.go_on()
        size += 1


def read_rows(reader, signs, wide, high):
    """Read a sign for each cell; a list, as the text has them, of cell, which sign (from 0) and its place."""
    cells = []
    for y in range(high - 1, -1, -1):
        for x in range(wide):
            place = reader.place
            cells.append((ACROSS * y + x, reader.choice(signs), place))
        reader.word("\n")
    return cells


def ground_list(told):
    """What lies on each cell, a list by the cell's number."""
    ground = [PLAIN] * CELLS
    for cell, what, place in told.ground:
        ground[cell] = what
    return ground


def cells_with(rows, wanted):
    """The cells whose sign is the wanted one, as the text has them."""
    return [cell for cell, what, place in rows if what == wanted]


def second_faults(rows, wanted, kind):
    """A fault of the kind for each wanted sign but the first."""
    places = [place for cell, what, place in rows if what == wanted]
    return [(place, kind) for place in places[1:]]


def may_start(ground, piece):
    """Whether the piece may be on such ground at first: a king may come to an exit, but not begin there."""
    return may_stand(ground, piece) and not (piece == KING and ground == EXIT)


def start_faults(told):
    """A fault for each piece that begins where it may not."""
    ground = ground_list(told)
    return [(place, 3) for cell, piece, place in told.start if not may_start(ground[cell], piece)]


def goal_faults(told):
    """A fault if the goal can't be come to, or is come to from the first."""
    kings = cells_with(told.start, KING)
    if told.goal == GOAL_EXITS:
        bad = len(cells_with(told.ground, EXIT)) == 0
    else:
        bad = len(kings) > 0 and on_edge(told.wide, told.high, kings[0])
    return [(told.goal_place, 5)] if bad else []


def missing_faults(told):
    """A fault if somebody, or the seat that the text speaks of, is not there."""
    seat_asked = told.passed == 0 or told.seat_enmity != QUIET
    bad = len(cells_with(told.start, KING)) == 0 or len(cells_with(told.start, HUNTER)) == 0
    if seat_asked and len(cells_with(told.ground, SEAT)) == 0:
        bad = True
    return [(told.length, 6)] if bad else []


def read_rules(text):
    """What a right text says; a TextFault if it isn't right."""
    try:
        told = RulesText(Reader(text))
    except GrammarFault as e:
        raise TextFault(1, e.place) from e
    found = second_faults(told.ground, SEAT, 2) + start_faults(told) + second_faults(told.start, KING, 4)
    found = found + goal_faults(told) + missing_faults(told)
    if len(found) > 0:
        # A fault is its place, then its kind: the least is the first by place, and of those the lesser kind.
        least = min(found)
        raise TextFault(least[1], least[0])
    return told
