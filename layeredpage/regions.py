"""Which cells of a page lie where. A region is a list with 1 for each cell in it and 0 for each other."""


def box_region(width, height, x, y, u, v):
    # The page's own cells are asked, not the box's: a box may be far greater than any page.
    return [1 if x <= cell % width < x + u and y <= cell // width < y + v else 0
            for cell in range(width * height)]


def beside(cell, width, height):
    found = []
    if cell >= width:
        found.append(cell - width)
    if cell % width > 0:
        found.append(cell - 1)
    if cell % width < width - 1:
        found.append(cell + 1)
    if cell // width < height - 1:
        found.append(cell + width)
    return found


def like_region(tones, width, height, start, most):
    region = [0] * len(tones)
    region[start] = 1
    waiting = [start]
    while waiting:
        cell = waiting.pop()
        for other in beside(cell, width, height):
            if region[other] == 0 and abs(tones[other] - tones[cell]) <= most:
                region[other] = 1
                waiting.append(other)
    return region


def around(cell, width, height):
    column = cell % width
    row = cell // width
    return [other for other in range(width * height)
            if abs(other % width - column) <= 1 and abs(other // width - row) <= 1]


def chosen_after(how, was, inside):
    if how == 0:
        return inside
    if how == 1:
        return max(was, inside)
    if how == 2:
        return was * (1 - inside)
    return was * inside


def chosen_by(how, chosen, region):
    return [chosen_after(how, was, inside) for was, inside in zip(chosen, region)]
