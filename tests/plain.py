"""The document's words done as plainly as can be, to hold the program against.

Cells are pairs x, y here, pieces are kept in sets, and nothing is laid out beforehand.
"""

import functools
import re

ENMITIES = ["quiet", "hunters", "men", "all"]


# Rules' texts: a grammar is a row of sets of words, none of which begins another of its set.

@functools.lru_cache(None)
def beginnings(words):
    return frozenset(word[:size] for word in words for size in range(len(word) + 1))


@functools.lru_cache(None)
def numbers(least, most, behind):
    return frozenset(f"{number}{behind}" for number in range(least, most + 1))


def follow(text, place, words):
    """The place behind the word that stands here, and the word; no word if the text leaves them there."""
    known = beginnings(words)
    size = 0
    while place + size < len(text) and text[place:place + size + 1] in known:
        size += 1
        if text[place:place + size] in words:
            return place + size, text[place:place + size]
    return place + size, None


class Left(Exception):
    pass


def grammar_fault(text):
    """The place of the fault of kind 1, or None."""
    place = 0

    def take(words):
        nonlocal place
        place, word = follow(text, place, words)
        if word is None:
            raise Left()
        return word

    try:
        take(frozenset(["tafl "]))
        name = re.compile(r"([A-Za-z][A-Za-z0-9]{0,15})?").match(text, place).group()
        place += len(name)
        if name == "":
            raise Left()
        take(frozenset([" "]))
        wide = int(take(numbers(5, 13, " ")))
        high = int(take(numbers(5, 13, "\n")))
        for head, signs in (("ground\n", ".SX#"), ("start\n", ".hmK")):
            take(frozenset([head]))
            for _ in range(high):
                for _ in range(wide):
                    take(frozenset(signs))
                take(frozenset("\n"))
        take(frozenset(["first hunters\n", "first king\n"]))
        take(frozenset(f"king {a} {b} {c}\n" for a in ("slides", "steps") for b in ("armed", "bare")
                       for c in ("two", "four")))
        take(frozenset(f"seat {a} {b}\n" for a in ("passed", "barred") for b in ENMITIES))
        take(frozenset(f"exits {a}\n" for a in ENMITIES))
        take(frozenset(["goal edge\n", "goal exits\n"]))
        take(frozenset(["thrice drawn\n", "thrice hunters\n", "thrice king\n"]))
        take(frozenset(["limit "]))
        take(numbers(1, 60000, "\n"))
        if place < len(text):
            raise Left()
    except Left:
        return place
    return None


class Hall:
    """What a text of the grammar says."""

    def __init__(self, text):
        rows = text.split("\n")
        head = rows[0].split(" ")
        self.wide, self.high = int(head[2]), int(head[3])
        self.ground = rows[2:2 + self.high]
        self.start = rows[3 + self.high:3 + 2 * self.high]
        said = {row.split(" ")[0]: row.split(" ")[1:] for row in rows[3 + 2 * self.high:-1]}
        self.slides = said["king"][0] == "slides"
        self.armed = said["king"][1] == "armed"
        self.four = said["king"][2] == "four"
        self.seat_line = said["seat"]
        self.passed = said["seat"][0] == "passed"
        self.seat = said["seat"][1]
        self.exits = said["exits"][0]
        self.goal = said["goal"][0]

    def is_on(self, at):
        return 0 <= at[0] < self.wide and 0 <= at[1] < self.high

    def at(self, at):
        return self.ground[self.high - 1 - at[1]][at[0]]

    def on_goal(self, at):
        if self.goal == "exits":
            return self.at(at) == "X"
        return at[0] in (0, self.wide - 1) or at[1] in (0, self.high - 1)


def text_fault(text):
    """A text's kind and place of fault, or None."""
    place = grammar_fault(text)
    if place is not None:
        return 1, place
    hall = Hall(text)
    found = []
    ground_at = text.index("\nground\n") + len("\nground\n")
    start_at = text.index("\nstart\n", ground_at - 1) + len("\nstart\n")
    seats = kings = 0
    for row in range(hall.high):
        for x in range(hall.wide):
            offset = row * (hall.wide + 1) + x
            ground, piece = hall.ground[row][x], hall.start[row][x]
            seats += ground == "S"
            if ground == "S" and seats > 1:
                found.append((ground_at + offset, 2))
            if piece != "." and ground == "#" or piece in "hm" and ground in "SX" or piece == "K" and ground == "X":
                found.append((start_at + offset, 3))
            kings += piece == "K"
            if piece == "K" and kings > 1:
                found.append((start_at + offset, 4))
            if piece == "K" and kings == 1 and hall.goal == "edge" and hall.on_goal((x, hall.high - 1 - row)):
                found.append((text.rindex("\ngoal ") + 6, 5))
    if hall.goal == "exits" and "X" not in "".join(hall.ground):
        found.append((text.rindex("\ngoal ") + 6, 5))
    start = "".join(hall.start)
    if "K" not in start or "h" not in start or seats == 0 and hall.seat_line != ["passed", "quiet"]:
        found.append((len(text), 6))
    return (min(found)[1], min(found)[0]) if found else None


# Positions' lines.

@functools.lru_cache(None)
def row_words(wide, kings, behind):
    """All that a row can be, with so many kings at most, and what stands behind it (men written as hunters)."""
    words = set()
    for mask in range(2 ** wide):
        signs = "".join("h" if mask >> x & 1 else "." for x in range(wide))
        written = [signs]
        if kings:
            written += [signs[:x] + "K" + signs[x + 1:] for x in range(wide) if signs[x] == "h"]
        for row in written:
            words.add(re.sub(r"\.+", lambda run: str(len(run.group())), row) + behind)
    return frozenset(words)


def line_fault(hall, text):
    """A line's kind and place of fault, or None."""
    alike = text.replace("m", "h")
    place = 0
    for row in range(hall.high):
        kings = 0 if "K" in text[:place] else 1
        place, word = follow(alike, place, row_words(hall.wide, kings, " " if row == hall.high - 1 else "/"))
        if word is None:
            return 1, place
    if text[place:place + 1] not in ("h", "k"):
        return 1, place
    if len(text) > place + 1:
        return 1, place + 1
    for at, piece, where in pieces_of(hall, text):
        if hall.at(at) == "#" or piece != "K" and hall.at(at) in "SX":
            return 2, where
    return None


def pieces_of(hall, text):
    x, y = 0, hall.high - 1
    found = []
    for part in re.finditer(r"\d+|[hmK/]", text[:text.index(" ")]):
        if part.group() == "/":
            x, y = 0, y - 1
        elif part.group().isdigit():
            x += int(part.group())
        else:
            found.append(((x, y), part.group(), part.start()))
            x += 1
    return found


class Position:
    def __init__(self, hunters, men, king, turn):
        self.hunters, self.men, self.king, self.turn = frozenset(hunters), frozenset(men), king, turn


def position_of(hall, text):
    told = pieces_of(hall, text)
    kings = [at for at, piece, where in told if piece == "K"]
    return Position([at for at, piece, where in told if piece == "h"], [at for at, piece, where in told if piece == "m"],
                    kings[0] if kings else None, 0 if text.endswith("h") else 1)


# Moves.

def number(at):
    return 13 * at[1] + at[0]


def neighbours(hall, at):
    found = [(at[0], at[1] + 1), (at[0] + 1, at[1]), (at[0], at[1] - 1), (at[0] - 1, at[1])]
    return [one for one in found if hall.is_on(one)]


def has_piece(position, at):
    return at in position.hunters or at in position.men or at == position.king


def ways_of(hall, position, begin):
    """The cells that the piece on begin can be moved to."""
    found = []
    is_king = begin == position.king
    for end in [(x, begin[1]) for x in range(hall.wide)] + [(begin[0], y) for y in range(hall.high)]:
        if end == begin:
            continue
        x_from, x_to = sorted((begin[0], end[0]))
        y_from, y_to = sorted((begin[1], end[1]))
        between = [(x, y) for x in range(x_from, x_to + 1) for y in range(y_from, y_to + 1)
                   if (x, y) not in (begin, end)]
        if any(hall.at(at) == "#" or has_piece(position, at) for at in between + [end]):
            continue
        if is_king and not hall.slides and between:
            continue
        if not is_king:
            if hall.at(end) in "SX" or any(hall.at(at) == "X" for at in between):
                continue
            if any(hall.at(at) == "S" for at in between) and not hall.passed:
                continue
        found.append(end)
    return found


def moves_of(hall, position):
    if position.king is None or hall.on_goal(position.king):
        return []
    movers = position.hunters if position.turn == 0 else position.men | {position.king}
    found = [(begin, end) for begin in movers for end in ways_of(hall, position, begin)]
    return sorted(found, key=lambda move: (number(move[0]), number(move[1])))


def is_against(hall, position, at, whom):
    if hall.at(at) == "S":
        return not has_piece(position, at) and hall.seat in (whom, "all")
    return hall.at(at) == "X" and hall.exits in (whom, "all")


def moved(hall, position, begin, end):
    """The position behind the move, and the cells whose pieces it took."""
    is_king = begin == position.king
    came = Position([end if at == begin else at for at in position.hunters],
                    [end if at == begin else at for at in position.men],
                    end if is_king else position.king, position.turn)
    taken = []
    for near in neighbours(hall, end):
        behind = (2 * near[0] - end[0], 2 * near[1] - end[1])
        if not hall.is_on(behind):
            behind = None
        if came.turn == 0:
            held = behind is not None and (behind in came.hunters or is_against(hall, came, behind, "men"))
            if near in came.men and held:
                taken.append(near)
            if near == came.king and hall.four:
                around = neighbours(hall, near)
                held = len(around) == 4 and all(at in came.hunters or is_against(hall, came, at, "men")
                                                for at in around)
            if near == came.king and held:
                taken.append(near)
        elif near in came.hunters and behind is not None and (hall.armed or not is_king):
            if behind in came.men or behind == came.king and hall.armed or is_against(hall, came, behind, "hunters"):
                taken.append(near)
    after = Position(came.hunters - set(taken), came.men - set(taken), None if came.king in taken else came.king,
                     1 - came.turn)
    return after, sorted(taken, key=number)


def over_of(hall, position):
    if position.king is None:
        return 1
    if hall.on_goal(position.king):
        return 2
    return 0 if moves_of(hall, position) else 3


# Weighing, looking ahead.

def weighed(hall, position, weights):
    roads = 0
    if position.king is not None and not hall.on_goal(position.king):
        roads = len(ways_of(hall, position, position.king))
    return weights[0] * len(position.hunters) - weights[1] * len(position.men) - weights[2] * roads


def worth(hall, position, weights, n, d):
    over = over_of(hall, position)
    if over:
        return 1000000 - d if over == 1 or over == 3 and position.turn == 1 else d - 1000000
    if n == 0:
        return weighed(hall, position, weights)
    found = [worth(hall, moved(hall, position, *move)[0], weights, n - 1, d + 1) for move in moves_of(hall, position)]
    return max(found) if position.turn == 0 else min(found)


def row(hall, position, weights, n, d):
    if over_of(hall, position) or n == 0:
        return []
    wanted = worth(hall, position, weights, n, d)
    for begin, end in moves_of(hall, position):
        after, taken = moved(hall, position, begin, end)
        if worth(hall, after, weights, n - 1, d + 1) == wanted:
            move = [number(begin), number(end), over_of(hall, after)] + [number(at) for at in taken]
            return [move] + row(hall, after, weights, n - 1, d + 1)


def rows_up_to(hall, position, n, enough):
    """How many moves looking n ahead makes; not counted further than enough."""
    if n == 0:
        return 0
    count = 0
    for move in moves_of(hall, position):
        count += 1 + rows_up_to(hall, moved(hall, position, *move)[0], n - 1, enough - count)
        if count > enough:
            break
    return count


def each(hall, position, weights, n):
    return [worth(hall, moved(hall, position, *move)[0], weights, n - 1, 1) for move in moves_of(hall, position)]
