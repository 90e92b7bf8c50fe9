"""The steps: what each counts, which are kept, and how they are undone and done again."""

from layeredpage.pages import new_document, same_document


def differing(some, others):
    return sum([1 for one, other in zip(some, others) if one != other])


def layer_numbered(layers, number):
    for layer in layers:
        if layer.number == number:
            return layer
    return None


def layers_size(before, after):
    size = 0
    for layer in before.layers:
        other = layer_numbered(after.layers, layer.number)
        size += len(layer.cells) if other is None else differing(layer.cells, other.cells)
    for layer in after.layers:
        if layer_numbered(before.layers, layer.number) is None:
            size += len(layer.cells)
    return size


def step_size(before, after):
    ground = differing(before.ground, after.ground)
    chosen = differing(before.chosen, after.chosen)
    return ground + chosen + layers_size(before, after) + 1


class Editor:
    # done holds for each step that can be undone, the oldest first, what it counts and the
    # document ahead of it; undone, for each that can be done again, the next last, the same with the
    # one behind it. cut_out is None until something is taken out, as taking no cells counts as well.
    def __init__(self):
        self.begin(new_document(1, 1, 0), 100)

    def begin(self, document, room):
        self.document = document
        self.room = room
        self.done = []
        self.undone = []
        self.cut_out = None

    def standing(self):
        now = self.document
        return [len(now.layers), now.worked, sum(now.chosen), len(self.done), len(self.undone)]

    def step_to(self, after):
        if not same_document(self.document, after):
            self.done.append((step_size(self.document, after), self.document))
            self.undone = []
            self.document = after
            self.forget()
        return self.standing()

    def forget(self):
        # Not even the newest is kept if it alone counts more than the room.
        while sum([step[0] for step in self.done]) > self.room:
            self.done.pop(0)

    # Neither way can bring the steps above the room: what is undone counts still.
    def undo(self):
        step = self.done.pop()
        self.undone.append((step[0], self.document))
        self.document = step[1]
        return self.standing()

    def redo(self):
        step = self.undone.pop()
        self.done.append((step[0], self.document))
        self.document = step[1]
        return self.standing()

    def step_sizes(self):
        done = [step[0] for step in reversed(self.done)]
        undone = [step[0] for step in reversed(self.undone)]
        return [len(done)] + done + [len(undone)] + undone
