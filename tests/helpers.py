"""Building texts, lines and calls for the tests, and reading answers apart."""

from taflahead.looking import answers

PLAIN_GROUND = [".......", ".......", ".......", "...S...", ".......", ".......", "......."]
PLAIN_START = ["..hhh..", ".......", "...m...", "h.mKm.h", "...m...", ".......", "..hhh.."]


def as_bytes(text):
    return list(text.encode("ascii")) if isinstance(text, str) else list(text)


def cell(name):
    """The number of the cell of this name, as d4."""
    return 13 * (int(name[1:]) - 1) + "abcdefghijklm".index(name[0])


def rules_text(ground=None, start=None, **words):
    """A rules' text; right, unless something in it is told otherwise."""
    ground = PLAIN_GROUND if ground is None else ground
    start = PLAIN_START if start is None else start
    told = {"name": "Hall", "wide": len(ground[0]), "high": len(ground), "first": "hunters",
            "king": "slides armed two", "seat": "passed quiet", "exits": "quiet", "goal": "edge",
            "thrice": "drawn", "limit": 100}
    assert set(words) <= set(told), words
    told.update(words)
    rows = [f"tafl {told['name']} {told['wide']} {told['high']}", "ground", *ground, "start", *start]
    for word in ("first", "king", "seat", "exits", "goal", "thrice", "limit"):
        rows.append(f"{word} {told[word]}")
    return "\n".join(rows) + "\n"


def hall_text(ground, **words):
    """A right text for a ground: its start is of no matter to the calls, so it's put wherever it may be."""
    start = [list("." * len(row)) for row in ground]
    inner = [(y, x) for y in range(1, len(ground) - 1) for x in range(1, len(ground[0]) - 1) if ground[y][x] == "."]
    start[inner[0][0]][inner[0][1]] = "K"
    start[inner[1][0]][inner[1][1]] = "h"
    return rules_text(ground, ["".join(row) for row in start], **words)


def line(rows, turn):
    """The line of the position that the rows show, the uppermost first."""
    told = []
    for row in rows:
        text = ""
        empty = 0
        for sign in row + "!":
            if sign == ".":
                empty += 1
                continue
            text += str(empty) if empty else ""
            text += sign
            empty = 0
        told.append(text[:-1])
    return "/".join(told) + " " + turn


def rules(text):
    text = as_bytes(text)
    return [0, len(text), *text]


def weigh(b, h=0, m=0, d=0):
    b = as_bytes(b)
    return [1, h, m, d, len(b), *b]


def ahead(b, h=0, m=0, d=0, n=1, most=600):
    b = as_bytes(b)
    return [2, h, m, d, n, most, len(b), *b]


def each(b, h=0, m=0, d=0, n=1, most=600):
    b = as_bytes(b)
    return [3, h, m, d, n, most, len(b), *b]


def apart(told):
    """The answers, each as a list of its own."""
    found = []
    place = 0
    while place < len(told):
        size = told[place]
        found.append(told[place + 1:place + 1 + size])
        assert len(found[-1]) == size, told
        place += 1 + size
    return found


def run(*calls):
    """The answers to the calls on one new object."""
    return apart(answers([number for call in calls for number in call]))


def last(*calls):
    return run(*calls)[-1]


def row_of(answer):
    """The moves of what ahead answered, each as a list."""
    assert answer[0] == 0, answer
    moves = []
    place = 3
    for _ in range(answer[2]):
        moves.append(answer[place + 1:place + 1 + answer[place]])
        place += 1 + answer[place]
    assert place == len(answer), answer
    return moves
