"""The calls on one document, and what they answer.

Each call gives back the list of the numbers it answers; a refusal is alone in it.
"""

from layeredpage.changes import brightened, filled, pasted, shifted, softened, taken_out
from layeredpage.pages import (
    Layer,
    dot_numbers,
    layer_numbers,
    new_document,
    with_chosen,
    with_layers,
    with_lowest_pressed,
    with_new_layer,
    with_worked_cells,
    with_worked_layer,
    worked_layer,
)
from layeredpage.pictures import covered, picture_tones
from layeredpage.regions import box_region, chosen_by, like_region
from layeredpage.steps import Editor

NO_SUCH_PAGE = -1
NO_SUCH_CELL = -1
NO_SUCH_LAYER = -2
NO_SUCH_SETTING = -3
NOTHING_THERE = -4
NO_MORE_LAYERS = -5

MOST_SIDE = 6
MOST_TONE = 255
MOST_ROOM = 1000
MOST_LAYERS = 5
MOST_WAY = 3
MOST_HOW = 3

# How many numbers stand behind each call's own number.
ARGUMENTS = (4, 0, 0, 1, 0, 3, 5, 4, 0, 2, 2, 0, 2, 0, 2, 0, 0, 0, 0, 0, 1, 0, 0, 0)


def page(editor, w, h, tone, room):
    if w < 1 or w > MOST_SIDE or h < 1 or h > MOST_SIDE or tone > MOST_TONE or room > MOST_ROOM:
        return [NO_SUCH_PAGE]
    editor.begin(new_document(w, h, tone), room)
    return editor.standing()


def layer(editor):
    if len(editor.document.layers) == MOST_LAYERS:
        return [NO_MORE_LAYERS]
    return editor.step_to(with_new_layer(editor.document))


def drop(editor):
    document = editor.document
    if not document.layers:
        return [NO_SUCH_LAYER]
    place = document.worked
    left = document.layers[:place] + document.layers[place + 1:]
    return editor.step_to(with_layers(document, left, max(min(place, len(left) - 1), 0)))


def pick(editor, i):
    document = editor.document
    if i >= len(document.layers):
        return [NO_SUCH_LAYER]
    return editor.step_to(with_layers(document, document.layers, i))


def raise_it(editor):
    document = editor.document
    place = document.worked
    # Without layers the place is 0, and there is none above it either.
    if place + 1 >= len(document.layers):
        return [NO_SUCH_LAYER]
    swapped = [document.layers[place + 1], document.layers[place]]
    layers = document.layers[:place] + swapped + document.layers[place + 2:]
    return editor.step_to(with_layers(document, layers, place + 1))


def set_it(editor, way, much, shown):
    document = editor.document
    if not document.layers:
        return [NO_SUCH_LAYER]
    if way > MOST_WAY or much > MOST_TONE or shown > 1:
        return [NO_SUCH_SETTING]
    was = worked_layer(document)
    return editor.step_to(with_worked_layer(document, Layer(was.number, way, much, shown, was.cells)))


def choose(editor, how, region):
    document = editor.document
    return editor.step_to(with_chosen(document, chosen_by(how, document.chosen, region)))


def box(editor, x, y, u, v, how):
    if how > MOST_HOW:
        return [NO_SUCH_SETTING]
    document = editor.document
    return choose(editor, how, box_region(document.width, document.height, x, y, u, v))


def like(editor, x, y, t, how):
    document = editor.document
    if x >= document.width or y >= document.height:
        return [NO_SUCH_CELL]
    if how > MOST_HOW:
        return [NO_SUCH_SETTING]
    start = y * document.width + x
    region = like_region(picture_tones(document), document.width, document.height, start, t)
    return choose(editor, how, region)


def turn(editor):
    document = editor.document
    return editor.step_to(with_chosen(document, [1 - was for was in document.chosen]))


def fill(editor, tone, much):
    document = editor.document
    if not document.layers:
        return [NO_SUCH_LAYER]
    if tone > MOST_TONE or much > MOST_TONE:
        return [NO_SUCH_SETTING]
    cells = filled(worked_layer(document).cells, document.chosen, tone, much)
    return editor.step_to(with_worked_cells(document, cells))


def bright(editor, up, k):
    document = editor.document
    if not document.layers:
        return [NO_SUCH_LAYER]
    if up > 1 or k > MOST_TONE:
        return [NO_SUCH_SETTING]
    cells = brightened(worked_layer(document).cells, document.chosen, up, k)
    return editor.step_to(with_worked_cells(document, cells))


def soft(editor):
    document = editor.document
    if not document.layers:
        return [NO_SUCH_LAYER]
    cells = softened(worked_layer(document).cells, document.chosen, document.width, document.height)
    return editor.step_to(with_worked_cells(document, cells))


def shift(editor, x, y):
    document = editor.document
    if not document.layers:
        return [NO_SUCH_LAYER]
    was = worked_layer(document).cells
    cells = shifted(was, document.chosen, document.width, document.height, x, y)
    return editor.step_to(with_worked_cells(document, cells))


def take_chosen(editor):
    document = editor.document
    editor.cut_out = taken_out(worked_layer(document).cells, document.chosen, document.width)


def cut(editor):
    document = editor.document
    if not document.layers:
        return [NO_SUCH_LAYER]
    # Taken out even if the cut is no step, as cells without anything are taken out too.
    take_chosen(editor)
    cells = filled(worked_layer(document).cells, document.chosen, 0, 0)
    return editor.step_to(with_worked_cells(document, cells))


def paste(editor, x, y):
    document = editor.document
    if not document.layers:
        return [NO_SUCH_LAYER]
    if editor.cut_out is None:
        return [NOTHING_THERE]
    was = worked_layer(document).cells
    cells = pasted(was, document.width, document.height, editor.cut_out, x, y)
    return editor.step_to(with_worked_cells(document, cells))


def press(editor):
    document = editor.document
    if not document.layers:
        return [NO_SUCH_LAYER]
    ground = covered(document.ground, document.layers[0])
    return editor.step_to(with_lowest_pressed(document, ground))


def copy(editor):
    if not editor.document.layers:
        return [NO_SUCH_LAYER]
    take_chosen(editor)
    return editor.standing()


def undo(editor):
    if not editor.done:
        return [NOTHING_THERE]
    return editor.undo()


def redo(editor):
    if not editor.undone:
        return [NOTHING_THERE]
    return editor.redo()


def dots(editor, i):
    layers = editor.document.layers
    if i >= len(layers):
        return [NO_SUCH_LAYER]
    return dot_numbers(layers[i])


def list_of(editor):
    layers = editor.document.layers
    told = [len(layers)]
    for one in layers:
        told.extend(layer_numbers(one))
    return told


def layer_answer(editor, number, row):
    if number == 0:
        return page(editor, row[0], row[1], row[2], row[3])
    if number == 1:
        return layer(editor)
    if number == 2:
        return drop(editor)
    if number == 3:
        return pick(editor, row[0])
    if number == 4:
        return raise_it(editor)
    return set_it(editor, row[0], row[1], row[2])


def cell_answer(editor, number, row):
    if number == 6:
        return box(editor, row[0], row[1], row[2], row[3], row[4])
    if number == 7:
        return like(editor, row[0], row[1], row[2], row[3])
    if number == 8:
        return turn(editor)
    if number == 9:
        return fill(editor, row[0], row[1])
    if number == 10:
        return bright(editor, row[0], row[1])
    return soft(editor)


def piece_answer(editor, number, row):
    if number == 12:
        return shift(editor, row[0], row[1])
    if number == 13:
        return cut(editor)
    if number == 14:
        return paste(editor, row[0], row[1])
    if number == 15:
        return press(editor)
    if number == 16:
        return copy(editor)
    if number == 17:
        return undo(editor)
    return redo(editor)


def asked_answer(editor, number, row):
    if number == 19:
        return picture_tones(editor.document)
    if number == 20:
        return dots(editor, row[0])
    if number == 21:
        return editor.document.chosen
    if number == 22:
        return editor.step_sizes()
    return list_of(editor)


def call_answer(editor, number, row):
    if number <= 5:
        return layer_answer(editor, number, row)
    if number <= 11:
        return cell_answer(editor, number, row)
    if number <= 18:
        return piece_answer(editor, number, row)
    return asked_answer(editor, number, row)


def answers(calls):
    editor = Editor()
    given = []
    at = 0
    while at < len(calls):
        number = calls[at]
        behind = at + 1 + ARGUMENTS[number]
        answered = call_answer(editor, number, calls[at + 1:behind])
        given.append(len(answered))
        given.extend(answered)
        at = behind
    return given
