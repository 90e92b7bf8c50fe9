"""What the commands make of a layer's cells. Each answers new cells, by what all of them were."""

from layeredpage.pictures import nearest
from layeredpage.regions import around


def only_chosen(chosen, cells, changed):
    return [changed[cell] if chosen[cell] == 1 else cells[cell] for cell in range(len(cells))]


def filled(cells, chosen, tone, much):
    return only_chosen(chosen, cells, [(tone, much)] * len(cells))


def moved_tone(tone, up, k):
    if up == 1:
        return min(tone + k, 255)
    return max(tone - k, 0)


def brightened(cells, chosen, up, k):
    return only_chosen(chosen, cells, [(moved_tone(cell[0], up, k), cell[1]) for cell in cells])


def mixed(some):
    much = sum([cell[1] for cell in some])
    if much == 0:
        return (0, 0)
    weight = sum([cell[0] * cell[1] for cell in some])
    return (nearest(weight, much), nearest(much, len(some)))


def softened(cells, chosen, width, height):
    changed = []
    for cell in range(len(cells)):
        changed.append(mixed([cells[other] for other in around(cell, width, height)]))
    return only_chosen(chosen, cells, changed)


def shifted(cells, chosen, width, height, x, y):
    changed = []
    for cell in range(len(cells)):
        column = (cell % width - x) % width
        row = (cell // width - y) % height
        changed.append(cells[row * width + column])
    return only_chosen(chosen, cells, changed)


def taken_out(cells, chosen, width):
    # Each piece keeps its column and row on the page, as pasting counts from these.
    return [(cell % width, cell // width, cells[cell]) for cell in range(len(cells)) if chosen[cell] == 1]


def pasted(cells, width, height, pieces, x, y):
    changed = list(cells)
    for piece in pieces:
        column = x + piece[0]
        row = y + piece[1]
        if column < width and row < height:
            changed[row * width + column] = piece[2]
    return changed
