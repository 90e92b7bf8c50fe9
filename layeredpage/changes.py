"""What fill, bright and soft make of a layer's cells. Each answers new cells, by what all of them were."""

from layeredpage.pictures import nearest
from layeredpage.regions import around


def only_chosen(chosen, cells, changed):
    return [changed[cell] if chosen[cell] == 1 else cells[cell] for cell in range(len(cells))]


def filled(cells, chosen, tone, much):
    return only_chosen(chosen, cells, [(tone, much)] * len(cells))


def moved_tone(tone, up, k):
    if up == 1:
        return min(tone + k, 255)
    return max(tone - k, 0)


def brightened(cells, chosen, up, k):
    return only_chosen(chosen, cells, [(moved_tone(cell[0], up, k), cell[1]) for cell in cells])


def mixed(some):
    much = sum([cell[1] for cell in some])
    if much == 0:
        return (0, 0)
    weight = sum([cell[0] * cell[1] for cell in some])
    return (nearest(weight, much), nearest(much, len(some)))


def softened(cells, chosen, width, height):
    changed = []
    for cell in range(len(cells)):
        changed.append(mixed([cells[other] for other in around(cell, width, height)]))
    return only_chosen(chosen, cells, changed)
