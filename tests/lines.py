"""Writes lines of calls for the tests and reads their answers call by call."""

from layeredpage.documents import answers

GREATEST = 4294967295
ROOMY = 1000

LAYER = (1,)
DROP = (2,)
RAISE = (4,)
TURN = (8,)
SOFT = (11,)
CUT = (13,)
PRESS = (15,)
COPY = (16,)
UNDO = (17,)
REDO = (18,)
PICTURE = (19,)
CHOSEN = (21,)
STEPS = (22,)
LIST = (23,)


def page(w, h, tone=0, room=ROOMY):
    return (0, w, h, tone, room)


def pick(i):
    return (3, i)


def set_it(way, much, shown):
    return (5, way, much, shown)


def box(x, y, u, v, how=0):
    return (6, x, y, u, v, how)


def like(x, y, t, how=0):
    return (7, x, y, t, how)


def fill(tone, much):
    return (9, tone, much)


def bright(up, k):
    return (10, up, k)


def shift(x, y):
    return (12, x, y)


def paste(x, y):
    return (14, x, y)


def dots(i):
    return (20, i)


# All that can be asked of a document with three layers at the most.
ALL_SEEN = (PICTURE, CHOSEN, LIST, dots(0), dots(1), dots(2))


def written(calls):
    return [number for call in calls for number in call]


def split(numbers):
    rows = []
    at = 0
    while at < len(numbers):
        behind = at + 1 + numbers[at]
        rows.append(numbers[at + 1:behind])
        at = behind
    return rows


def ask(*calls):
    numbers = written(calls)
    assert len(calls) <= 40 and len(numbers) <= 240, "no such line is handed in"
    rows = split(answers(numbers))
    assert len(rows) == len(calls), (rows, calls)
    return rows


def last(*calls):
    return ask(*calls)[-1]


def asked(calls, *questions):
    """What is answered to the questions behind the calls."""
    return ask(*calls, *questions)[len(calls):]


def cells(calls, place=0):
    """The tone of each cell of the layer at that place, and how much of it there is, behind the calls."""
    numbers = last(*calls, dots(place))
    return list(zip(numbers[::2], numbers[1::2]))


def tones(calls, place=0):
    return [tone for tone, much in cells(calls, place)]


def numbered(w, h, room=ROOMY):
    """A page with one layer, of which each cell has another tone: 1 and its column and ten times its row."""
    calls = [page(w, h, 0, room), LAYER, fill(1, 200)]
    for x in range(1, w):
        calls += [box(x, 0, 1, h), bright(1, x)]
    for y in range(1, h):
        calls += [box(0, y, w, 1), bright(1, 10 * y)]
    return [*calls, box(0, 0, w, h)]


def drawn_over(ground, way, tone, much, of_it):
    """A page of one cell, with one layer over it."""
    return [page(1, 1, ground), LAYER, fill(tone, much), set_it(way, of_it, 1)]


def kept(*calls):
    """How many steps can be undone behind the calls."""
    return last(*calls)[3]


def cell_is(calls, x, y, tone, much):
    """Whether the worked layer's cell is just that: filling it so is then no step.

    The calls must leave room for what this adds: all their steps have to be kept.
    """
    rows = ask(*calls, box(x, y, 1, 1), fill(tone, much))
    return rows[-1][3] == rows[-2][3]


def chosen_cells(calls, w, h):
    """Which cells are chosen: each is asked with a line of its own, by taking all others out."""
    found = []
    for cell in range(w * h):
        if last(*calls, box(cell % w, cell // w, 1, 1, 3))[2] == 1:
            found.append(cell)
    return found


def apart(calls, x, y, far):
    """Whether the picture's tones of cell (x, y) and of the one to the right differ by just far.

    All that is chosen with like from there is cut down to the cell on the right.
    """
    met = last(*calls, box(x, y, 2, 1), like(x, y, far, 3), box(x + 1, y, 1, 1, 3))[2] == 1
    if far == 0:
        return met
    missed = last(*calls, box(x, y, 2, 1), like(x, y, far - 1, 3), box(x + 1, y, 1, 1, 3))[2] == 0
    return met and missed
