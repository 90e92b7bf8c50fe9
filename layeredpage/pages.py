"""What a document and a layer are made of.

Neither is changed once it is made: a command makes another document, which may hold
what it did not change of the first. So a step can keep the document from ahead of it as it is.
"""


class Layer:
    # cells holds, for each cell of the page, its tone and how much of that there is.
    def __init__(self, number, way, much, shown, cells):
        self.number = number
        self.way = way
        self.much = much
        self.shown = shown
        self.cells = cells


class Document:
    # given is the last number that a layer got. It is kept here, so that undoing gives it back.
    def __init__(self, width, height, ground, layers, worked, chosen, given):
        self.width = width
        self.height = height
        self.ground = ground
        self.layers = layers
        self.worked = worked
        self.chosen = chosen
        self.given = given


def new_document(width, height, tone):
    size = width * height
    return Document(width, height, [tone] * size, [], 0, [1] * size, 0)


def empty_layer(document, number):
    return Layer(number, 0, 255, 1, [(0, 0)] * len(document.ground))


def with_layers(document, layers, worked):
    return Document(document.width, document.height, document.ground, layers, worked,
                    document.chosen, document.given)


def with_new_layer(document):
    place = document.worked + 1 if document.layers else 0
    number = document.given + 1
    layers = document.layers[:place] + [empty_layer(document, number)] + document.layers[place:]
    return Document(document.width, document.height, document.ground, layers, place,
                    document.chosen, number)


def with_lowest_pressed(document, ground):
    return Document(document.width, document.height, ground, document.layers[1:],
                    max(document.worked - 1, 0), document.chosen, document.given)


def with_chosen(document, chosen):
    return Document(document.width, document.height, document.ground, document.layers,
                    document.worked, chosen, document.given)


def worked_layer(document):
    return document.layers[document.worked]


def with_worked_layer(document, changed):
    place = document.worked
    return with_layers(document, document.layers[:place] + [changed] + document.layers[place + 1:], place)


def with_worked_cells(document, cells):
    was = worked_layer(document)
    return with_worked_layer(document, Layer(was.number, was.way, was.much, was.shown, cells))


def dot_numbers(layer):
    told = []
    for cell in layer.cells:
        told.append(cell[0])
        told.append(cell[1])
    return told


def layer_numbers(layer):
    having = len([cell for cell in layer.cells if cell[1] > 0])
    return [layer.number, layer.way, layer.much, layer.shown, having]


def same_layer(one, other):
    if one.number != other.number or one.cells != other.cells:
        return False
    return one.way == other.way and one.much == other.much and one.shown == other.shown


def same_layers(some, others):
    if len(some) != len(others):
        return False
    return all([same_layer(one, other) for one, other in zip(some, others)])


def same_document(one, other):
    if one.ground != other.ground or one.chosen != other.chosen or one.worked != other.worked:
        return False
    return same_layers(one.layers, other.layers)
