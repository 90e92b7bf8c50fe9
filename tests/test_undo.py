"""undo, redo and steps: what they leave, and what they answer."""

import random
import unittest

from layeredpage.pages import new_document, with_chosen
from layeredpage.steps import Editor
from tests.lines import (ALL_SEEN, CHOSEN, COPY, CUT, DROP, GREATEST, LAYER, LIST, PICTURE, PRESS, RAISE, REDO, SOFT,
                         STEPS, TURN, UNDO, ask, asked, box, bright, dots, fill, last, like, page, paste, pick, set_it,
                         shift)

# Two layers with something in each, some cells chosen, and something cut out.
START = [page(3, 2, 40), LAYER, fill(10, 200), box(0, 0, 2, 1), LAYER, fill(90, 100), set_it(1, 200, 1), COPY]

# Each command, as a step behind that; ahead of it what it needs.
COMMANDS = (
    ("layer", [], LAYER),
    ("drop", [], DROP),
    ("drop the lower", [pick(0)], DROP),
    ("pick", [], pick(0)),
    ("raise_it", [pick(0)], RAISE),
    ("set_it", [], set_it(2, 50, 0)),
    ("box", [], box(1, 1, 1, 1)),
    ("like", [], like(0, 0, 0, 2)),
    ("turn", [], TURN),
    ("fill", [], fill(5, 6)),
    ("bright", [], bright(1, 7)),
    ("soft", [], SOFT),
    ("shift", [], shift(1, 1)),
    ("cut", [], CUT),
    ("paste", [], paste(1, 1)),
    ("press", [], PRESS),
    ("press the one worked on", [pick(0)], PRESS),
)


class OverEachCommand(unittest.TestCase):
    def test_undone_as_it_was_and_done_again_as_it_was_behind(self):
        for name, ahead, command in COMMANDS:
            with self.subTest(name):
                calls = [*START, *ahead, *ALL_SEEN, command, *ALL_SEEN, UNDO, *ALL_SEEN, REDO, *ALL_SEEN]
                rows = ask(*calls)[len(START) + len(ahead) - 1:]
                stood = [rows[0], rows[7], rows[14], rows[21]]
                seen = [rows[1:7], rows[8:14], rows[15:21], rows[22:28]]
                done = stood[0][3]
                self.assertEqual([row[3:] for row in stood], [[done, 0], [done + 1, 0], [done, 1], [done + 1, 0]])
                self.assertEqual(stood[2][:3], stood[0][:3])
                self.assertEqual(stood[3][:3], stood[1][:3])
                self.assertEqual(seen[2], seen[0])
                self.assertEqual(seen[3], seen[1])
                # The step is one that can be seen.
                self.assertNotEqual((stood[0][:3], seen[0]), (stood[1][:3], seen[1]))

    def test_what_it_counts_goes_with_it(self):
        for name, ahead, command in COMMANDS:
            with self.subTest(name):
                before, behind, undone, again = ask(*START, *ahead, STEPS, command, STEPS, UNDO, STEPS, REDO,
                                                    STEPS)[len(START) + len(ahead)::2]
                size = behind[1]
                self.assertEqual(behind, [before[0] + 1, size, *before[1:]])
                self.assertEqual(undone, [*before[:-1], 1, size])
                self.assertEqual(again, behind)

    def test_behind_it_there_is_nothing_to_do_again(self):
        for name, ahead, command in COMMANDS:
            with self.subTest(name):
                rows = ask(*START, *ahead, box(0, 1, 1, 1, 1), UNDO, command, REDO, STEPS)
                self.assertEqual(rows[-4][4], 1)
                self.assertEqual(rows[-3][3:], [rows[-4][3] + 1, 0])
                self.assertEqual(rows[-2:], [[-4], last(*START, *ahead, command, STEPS)])


def random_step(rng):
    return rng.choice((
        LAYER, LAYER, DROP, pick(rng.randrange(3)), RAISE,
        set_it(rng.randrange(4), rng.randrange(256), rng.randrange(2)),
        box(rng.randrange(4), rng.randrange(3), rng.randrange(5), rng.randrange(4), rng.randrange(4)),
        like(rng.randrange(4), rng.randrange(3), rng.randrange(60), rng.randrange(4)), TURN,
        fill(rng.randrange(256), rng.randrange(256)), fill(rng.randrange(256), 255),
        bright(rng.randrange(2), rng.randrange(256)), SOFT, shift(rng.randrange(5), rng.randrange(4)), CUT,
        paste(rng.randrange(3), rng.randrange(3)), PRESS, COPY))


class ToTheFirstAndBack(unittest.TestCase):
    def test_all_that_can_be_seen_is_as_it_was(self):
        rng = random.Random(5)
        for _ in range(60):
            room = rng.choice((20, 60, 1000))
            calls = [page(4, 3, 100, room), LAYER, fill(50, 200), *[random_step(rng) for _ in range(7)]]
            done = last(*calls, STEPS)[0]
            undone = self.seen_on_the_way(calls, UNDO, done)
            again = self.seen_on_the_way([*calls, *[UNDO] * done], REDO, done)
            self.assertEqual(list(reversed(undone)), again, calls)
            # Each step's own end is met on the way, the last first.
            met = self.ends(calls)
            self.assertEqual(undone, met[:done + 1], calls)
            self.assertEqual(last(*calls, *[UNDO] * (done + 1)), [-4])
            self.assertEqual(last(*calls, *[UNDO] * done, *[REDO] * (done + 1)), [-4])

    def seen_on_the_way(self, calls, back, count):
        return [self.seen([*calls, *[back] * times]) for times in range(count + 1)]

    def seen(self, calls):
        # What stands there is asked by a call that changes nothing.
        return [last(*calls, box(0, 0, 0, 0, 1))[:3], asked(calls, *ALL_SEEN, dots(3), dots(4))]

    def ends(self, calls):
        """How it was behind each step, the last step first."""
        found = [self.seen(calls[:1])]
        for many in range(2, len(calls) + 1):
            now = self.seen(calls[:many])
            if now != found[-1]:
                found.append(now)
        return found[::-1]

    def test_never_more_than_the_room_and_none_forgotten_for_which_there_was(self):
        rng = random.Random(7)
        for _ in range(60):
            room = rng.choice((0, 5, 13, 20, 37, 60))
            calls = [LAYER, fill(50, 200), *[random_step(rng) for _ in range(15)]]
            sizes = last(page(4, 3, 100, 1000), *calls, STEPS)[1:-1]
            expected = []
            for size in sizes:
                if sum(expected) + size > room:
                    break
                expected.append(size)
            self.assertEqual(last(page(4, 3, 100, room), *calls, STEPS), [len(expected), *expected, 0], calls)


class Undoing(unittest.TestCase):
    def test_answers_how_it_stands(self):
        self.assertEqual(ask(page(2, 1), LAYER, LAYER, box(0, 0, 1, 1), UNDO, UNDO, UNDO, UNDO, REDO, REDO, REDO, REDO),
                         [[0, 0, 2, 0, 0], [1, 0, 2, 1, 0], [2, 1, 2, 2, 0], [2, 1, 1, 3, 0],
                          [2, 1, 2, 2, 1], [1, 0, 2, 1, 2], [0, 0, 2, 0, 3], [-4],
                          [1, 0, 2, 1, 2], [2, 1, 2, 2, 1], [2, 1, 1, 3, 0], [-4]])

    def test_refused_leaves_all_as_it_was(self):
        calls = [page(2, 1, 7, 4), LAYER, fill(5, 6), fill(7, 8), UNDO]
        for more in ([UNDO], [UNDO, UNDO], [REDO, REDO]):
            rows = asked(calls, *more, *ALL_SEEN, STEPS)
            self.assertEqual(rows[len(more) - 1], [-4])
            self.assertEqual(rows[len(more):], asked([*calls, *more[:-1]], *ALL_SEEN, STEPS))

    def test_the_place_worked_on_comes_back(self):
        rows = ask(LAYER, LAYER, LAYER, pick(0), DROP, UNDO, fill(5, 5), dots(0), dots(1), dots(2))
        self.assertEqual(rows[4:], [[2, 0, 1, 5, 0], [3, 0, 1, 4, 1], [3, 0, 1, 5, 0], [5, 5], [0, 0], [0, 0]])

    def test_undoing_is_no_step_itself(self):
        self.assertEqual(ask(TURN, UNDO, UNDO, REDO, UNDO, STEPS),
                         [[0, 0, 0, 1, 0], [0, 0, 1, 0, 1], [-4], [0, 0, 0, 1, 0], [0, 0, 1, 0, 1], [0, 1, 2]])

    def test_a_step_that_was_not_kept_can_not_be_undone(self):
        self.assertEqual(ask(page(2, 2, 0, 4), box(0, 0, 1, 1, 2), LAYER, UNDO, LIST)[2:],
                         [[1, 0, 3, 0, 0], [-4], [1, 1, 0, 255, 1, 0]])

    def test_with_a_room_of_0(self):
        self.assertEqual(ask(page(1, 1, 0, 0), LAYER, UNDO, REDO, STEPS)[1:],
                         [[1, 0, 1, 0, 0], [-4], [-4], [0, 0]])


class WhatEndsWhatWasUndone(unittest.TestCase):
    UNDONE = [page(2, 1, 7), LAYER, fill(5, 6), box(0, 0, 1, 1), fill(7, 8), UNDO, UNDO]

    def test_a_new_step(self):
        self.assertEqual(asked(self.UNDONE, STEPS, fill(9, 9), STEPS, REDO),
                         [[2, 3, 3, 2, 2, 2], [1, 0, 2, 3, 0], [3, 3, 3, 3, 0], [-4]])

    def test_even_the_same_step_again(self):
        self.assertEqual(asked(self.UNDONE, box(0, 0, 1, 1), STEPS, REDO), [[1, 0, 1, 3, 0], [3, 2, 3, 3, 0], [-4]])

    def test_a_step_that_is_too_great_to_be_kept(self):
        calls = [page(2, 2, 0, 4), box(0, 0, 1, 1, 2), UNDO]
        self.assertEqual(asked(calls, LAYER, STEPS, UNDO, REDO), [[1, 0, 4, 0, 0], [0, 0], [-4], [-4]])

    def test_not_a_command_that_is_no_step(self):
        for same in (pick(0), set_it(0, 255, 1), box(0, 0, 2, 1), like(0, 0, 9), fill(5, 6), bright(1, 0), SOFT,
                     shift(1, 0), shift(0, 0)):
            self.assertEqual(asked(self.UNDONE, same, STEPS), [[1, 0, 2, 2, 2], [2, 3, 3, 2, 2, 2]], same)
        calls = [page(2, 1), LAYER, fill(5, 6), TURN, set_it(1, 9, 1), UNDO]
        for same in (CUT, fill(1, 1), bright(1, 9), SOFT, shift(1, 0)):
            self.assertEqual(asked(calls, same, REDO), [[1, 0, 0, 3, 1], [1, 0, 0, 4, 0]], same)
        calls = [page(2, 1), LAYER, COPY, TURN, UNDO]
        for same in (CUT, paste(0, 0), paste(GREATEST, 0), SOFT):
            self.assertEqual(asked(calls, same, REDO), [[1, 0, 2, 1, 1], [1, 0, 0, 2, 0]], same)

    def test_not_a_question_nor_copy(self):
        for question in (PICTURE, CHOSEN, LIST, STEPS, dots(0), dots(1), COPY):
            self.assertEqual(asked(self.UNDONE, question, STEPS)[1], [2, 3, 3, 2, 2, 2], question)

    def test_not_a_refused_call(self):
        wrong = ((page(0, 1), -1), (pick(1), -2), (dots(1), -2), (RAISE, -2), (set_it(4, 0, 0), -3),
                 (box(0, 0, 0, 0, 4), -3), (like(2, 0, 0), -1), (like(0, 0, 0, 4), -3), (fill(256, 0), -3),
                 (bright(2, 0), -3), (paste(0, 0), -4))
        for call, refusal in wrong:
            rows = asked([*self.UNDONE, call], *ALL_SEEN, STEPS, REDO)
            self.assertEqual(last(*self.UNDONE, call), [refusal])
            self.assertEqual(rows, asked(self.UNDONE, *ALL_SEEN, STEPS, REDO), call)

    def test_not_one_refused_without_layers(self):
        calls = [page(2, 1), TURN, LAYER, UNDO, UNDO]
        for call in (DROP, set_it(0, 0, 0), fill(0, 0), bright(0, 0), SOFT, shift(1, 1), CUT, paste(0, 0), PRESS, COPY,
                     pick(0), RAISE, dots(0)):
            self.assertEqual(last(*calls, call), [-2])
            self.assertEqual(asked([*calls, call], *ALL_SEEN, STEPS, REDO), asked(calls, *ALL_SEEN, STEPS, REDO), call)

    def test_not_a_sixth_layer(self):
        calls = [page(2, 1), *[LAYER] * 5, TURN, UNDO, LAYER, STEPS, REDO, LIST]
        self.assertEqual(ask(*calls)[8:11], [[-5], [5, 3, 3, 3, 3, 3, 1, 3], [5, 4, 0, 6, 0]])


class TheSteps(unittest.TestCase):
    def test_done_the_last_first_and_undone_the_next_first(self):
        # 7, 5 (four cells aren't chosen any more), 3, 1
        calls = [page(3, 2), LAYER, box(0, 0, 2, 1), fill(9, 9), set_it(1, 9, 1)]
        self.assertEqual(asked(calls, STEPS, UNDO, STEPS, UNDO, STEPS, UNDO, STEPS, UNDO, STEPS, REDO, STEPS)[0::2],
                         [[4, 1, 3, 5, 7, 0], [3, 3, 5, 7, 1, 1], [2, 5, 7, 2, 3, 1], [1, 7, 3, 5, 3, 1],
                          [0, 4, 7, 5, 3, 1], [1, 7, 3, 5, 3, 1]])

    def test_with_a_room_so_small_that_old_ones_are_forgotten(self):
        calls = [page(2, 2, 0, 12), LAYER, fill(9, 9), set_it(1, 9, 1), set_it(2, 9, 1)]
        self.assertEqual(last(*calls, STEPS), [4, 1, 1, 5, 5, 0])
        calls += [set_it(3, 9, 1)]
        self.assertEqual(last(*calls, STEPS), [4, 1, 1, 1, 5, 0])
        self.assertEqual(asked(calls, UNDO, UNDO, STEPS, UNDO, UNDO, UNDO, STEPS, LIST),
                         [[1, 0, 4, 3, 1], [1, 0, 4, 2, 2], [2, 1, 5, 2, 1, 1], [1, 0, 4, 1, 3], [1, 0, 4, 0, 4], [-4],
                          [0, 4, 5, 1, 1, 1], [1, 1, 0, 255, 1, 0]])

    def test_what_is_undone_counts_still(self):
        # Undoing makes no room, and takes none: all four are there to be done again.
        calls = [page(2, 2, 0, 12), LAYER, fill(9, 9), set_it(1, 9, 1), set_it(2, 9, 1), UNDO, UNDO, UNDO, UNDO]
        self.assertEqual(asked(calls, STEPS, REDO, REDO, REDO, REDO, STEPS)[0::5],
                         [[0, 4, 5, 5, 1, 1], [4, 1, 1, 5, 5, 0]])

    def test_what_was_undone_takes_no_room_behind_a_new_step(self):
        calls = [page(2, 2, 0, 10), LAYER, TURN, UNDO, fill(9, 9)]
        self.assertEqual(asked(calls, STEPS), [[2, 5, 5, 0]])
        # One that just fits, and one that counts one more.
        calls = [page(2, 2, 0, 8), LAYER, set_it(1, 9, 1), set_it(2, 9, 1), UNDO, UNDO]
        self.assertEqual(last(*calls, box(0, 0, 2, 1), STEPS), [2, 3, 5, 0])
        self.assertEqual(last(*calls, box(0, 0, 1, 1), STEPS), [1, 4, 0])

    def test_what_was_forgotten_does_not_come_back(self):
        calls = [page(2, 2, 0, 5), LAYER, TURN, UNDO, UNDO]
        self.assertEqual(ask(*calls, STEPS)[3:], [[1, 0, 4, 0, 1], [-4], [0, 1, 5]])

    def test_a_new_page_has_none(self):
        self.assertEqual(last(LAYER, TURN, UNDO, page(1, 1), STEPS), [0, 0])


class TheLayersNumbers(unittest.TestCase):
    def numbers(self, *calls):
        return last(*calls, LIST)[1::5]

    def test_undoing_gives_a_number_free(self):
        self.assertEqual(self.numbers(LAYER, LAYER, UNDO, LAYER), [1, 2])
        self.assertEqual(self.numbers(LAYER, UNDO, LAYER), [1])
        self.assertEqual(self.numbers(LAYER, LAYER, LAYER, UNDO, UNDO, LAYER, LAYER), [1, 2, 3])

    def test_doing_again_takes_it_again(self):
        self.assertEqual(self.numbers(LAYER, LAYER, UNDO, REDO), [1, 2])
        self.assertEqual(self.numbers(LAYER, LAYER, UNDO, REDO, LAYER), [1, 2, 3])
        self.assertEqual(self.numbers(LAYER, LAYER, UNDO, UNDO, REDO, LAYER), [1, 2])

    def test_dropping_and_pressing_do_not(self):
        self.assertEqual(self.numbers(LAYER, DROP, LAYER), [2])
        self.assertEqual(self.numbers(LAYER, PRESS, LAYER), [2])
        self.assertEqual(self.numbers(LAYER, LAYER, DROP, LAYER), [1, 3])

    def test_undoing_a_drop_brings_the_number_back(self):
        self.assertEqual(self.numbers(LAYER, DROP, UNDO), [1])
        self.assertEqual(self.numbers(LAYER, DROP, UNDO, LAYER), [1, 2])
        self.assertEqual(self.numbers(LAYER, DROP, LAYER, UNDO, UNDO, LAYER), [1, 2])
        self.assertEqual(self.numbers(LAYER, DROP, UNDO, UNDO, LAYER), [1])
        self.assertEqual(self.numbers(LAYER, PRESS, UNDO, LAYER), [1, 2])

    def test_where_a_step_was_not_kept_it_is_not_given_twice(self):
        self.assertEqual(self.numbers(page(2, 1, 0, 2), LAYER, DROP, UNDO, LAYER), [2])

    def test_of_the_page(self):
        self.assertEqual(self.numbers(LAYER, LAYER, page(1, 1), LAYER), [1])


class TheEditor(unittest.TestCase):
    def test_keeps_the_documents_as_they_are(self):
        editor = Editor()
        first = new_document(2, 1, 7)
        second = with_chosen(first, [0, 1])
        editor.begin(first, 100)
        self.assertEqual(editor.step_to(second), [0, 0, 1, 1, 0])
        self.assertEqual(editor.undo(), [0, 0, 2, 0, 1])
        self.assertEqual((first.chosen, second.chosen), ([1, 1], [0, 1]))
        self.assertEqual(editor.redo(), [0, 0, 1, 1, 0])
        self.assertEqual((first.chosen, second.chosen), ([1, 1], [0, 1]))


if __name__ == "__main__":
    unittest.main()
