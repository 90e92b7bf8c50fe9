"""The picture: what is seen of the ground with the layers over it."""

FULL = 255
FULL_TWICE = 65025


def nearest(top, bottom):
    # Half of the bottom is added ahead of the division, so of two as near the greater comes out.
    return (2 * top + bottom) // (2 * bottom)


def met_tone(way, below, tone):
    if way == 0:
        return tone
    if way == 1:
        return nearest(below * tone, FULL)
    if way == 2:
        return FULL - nearest((FULL - below) * (FULL - tone), FULL)
    return abs(below - tone)


def covered_tone(below, layer, cell):
    tone = cell[0]
    share = cell[1] * layer.much
    over = met_tone(layer.way, below, tone)
    return nearest((FULL_TWICE - share) * below + share * over, FULL_TWICE)


def covered(tones, layer):
    if layer.shown == 0:
        return tones
    return [covered_tone(below, layer, cell) for below, cell in zip(tones, layer.cells)]


def picture_tones(document):
    tones = document.ground
    for layer in document.layers:
        tones = covered(tones, layer)
    return tones
