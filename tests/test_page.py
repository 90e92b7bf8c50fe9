"""page, and how the document is at the beginning."""

import unittest

from layeredpage.steps import Editor
from tests.lines import (CHOSEN, COPY, CUT, DROP, GREATEST, LAYER, LIST, PICTURE, PRESS, RAISE, REDO, SOFT, STEPS,
                         TURN, UNDO, ask, box, bright, chosen_cells, dots, fill, kept, last, like, page, paste, pick,
                         set_it, shift)


class TheBeginning(unittest.TestCase):
    def test_one_cell_that_is_chosen_and_no_layer(self):
        self.assertEqual(ask(TURN), [[0, 0, 0, 1, 0]])
        self.assertEqual(ask(TURN, TURN), [[0, 0, 0, 1, 0], [0, 0, 1, 2, 0]])
        self.assertEqual(ask(box(0, 0, 6, 6)), [[0, 0, 1, 0, 0]])

    def test_only_cell_0_0_is_there(self):
        self.assertEqual(ask(like(0, 0, 0)), [[0, 0, 1, 0, 0]])
        self.assertEqual(ask(like(1, 0, 0)), [[-1]])
        self.assertEqual(ask(like(0, 1, 0)), [[-1]])

    def test_without_layers_what_needs_one_is_refused(self):
        calls = (DROP, pick(0), RAISE, set_it(0, 0, 0), fill(0, 0), bright(0, 0), SOFT, shift(0, 0), CUT, paste(0, 0),
                 PRESS, COPY, dots(0))
        self.assertEqual(ask(*calls), [[-2]] * 13)

    def test_asked_before_any_page(self):
        self.assertEqual(ask(PICTURE, CHOSEN, STEPS, LIST), [[0], [1], [0, 0], [0]])

    def test_nothing_to_undo_and_nothing_cut_out(self):
        self.assertEqual(ask(UNDO, REDO, LAYER, paste(0, 0)), [[-4], [-4], [1, 0, 1, 1, 0], [-4]])

    def test_the_room(self):
        # One cell's steps in 40 calls never count 100 together, so it is looked up.
        self.assertEqual(Editor().room, 100)
        self.assertEqual(kept(*[TURN] * 40), 40)
        self.assertEqual(last(*[LAYER, fill(9, 255), PRESS, LAYER, fill(0, 255), PRESS] * 6, STEPS),
                         [36, *[3, 2, 2] * 12, 0])


class ThePage(unittest.TestCase):
    def test_answers_how_it_stands(self):
        self.assertEqual(ask(page(3, 2, 7, 50)), [[0, 0, 6, 0, 0]])
        self.assertEqual(ask(page(1, 1, 0, 0)), [[0, 0, 1, 0, 0]])
        self.assertEqual(ask(page(6, 6, 255, 1000)), [[0, 0, 36, 0, 0]])

    def test_has_that_ground_no_layers_all_chosen_and_no_steps(self):
        self.assertEqual(ask(page(3, 2, 7, 50), PICTURE, CHOSEN, STEPS, LIST)[1:], [[7] * 6, [1] * 6, [0, 0], [0]])
        self.assertEqual(ask(page(1, 2, 255, 0), PICTURE, CHOSEN, STEPS, LIST)[1:], [[255] * 2, [1] * 2, [0, 0], [0]])

    def test_columns_and_rows_are_not_mistaken(self):
        self.assertEqual(last(page(5, 2), like(4, 1, 0)), [0, 0, 10, 0, 0])
        self.assertEqual(last(page(5, 2), like(1, 4, 0)), [-1])
        self.assertEqual(chosen_cells((page(3, 2), box(2, 0, 1, 2)), 3, 2), [2, 5])

    def test_w_and_h_from_1_to_6(self):
        for side in (1, 6):
            self.assertEqual(ask(page(side, 2)), [[0, 0, 2 * side, 0, 0]])
            self.assertEqual(ask(page(2, side)), [[0, 0, 2 * side, 0, 0]])
        for side in (0, 7, GREATEST):
            self.assertEqual(ask(page(side, 2)), [[-1]])
            self.assertEqual(ask(page(2, side)), [[-1]])

    def test_tone_up_to_255(self):
        self.assertEqual(ask(page(2, 2, 255)), [[0, 0, 4, 0, 0]])
        self.assertEqual(ask(page(2, 2, 256)), [[-1]])
        self.assertEqual(ask(page(2, 2, GREATEST)), [[-1]])

    def test_room_up_to_1000(self):
        self.assertEqual(ask(page(2, 2, 0, 1000)), [[0, 0, 4, 0, 0]])
        self.assertEqual(ask(page(2, 2, 0, 1001)), [[-1]])
        self.assertEqual(ask(page(2, 2, 0, GREATEST)), [[-1]])

    def test_all_wrong_at_once(self):
        self.assertEqual(ask(page(0, 7, 256, 1001)), [[-1]])

    def test_is_new_altogether(self):
        rows = ask(page(2, 2), LAYER, LAYER, box(0, 0, 1, 1), page(3, 1), TURN, LAYER)
        self.assertEqual(rows[3:], [[2, 1, 1, 3, 0], [0, 0, 3, 0, 0], [0, 0, 0, 1, 0], [1, 0, 0, 2, 0]])

    def test_what_was_undone_is_gone_too(self):
        rows = ask(page(2, 2), TURN, TURN, UNDO, page(2, 2), UNDO, REDO, STEPS)
        self.assertEqual(rows[3:], [[0, 0, 0, 1, 1], [0, 0, 4, 0, 0], [-4], [-4], [0, 0]])

    def test_refused_keeps_steps_and_what_is_cut_out(self):
        rows = ask(LAYER, fill(5, 6), COPY, fill(1, 1), UNDO, fill(0, 0), UNDO, page(7, 1), STEPS, REDO, paste(0, 0),
                   dots(0))
        self.assertEqual(rows[6:], [[1, 0, 1, 2, 1], [-1], [2, 2, 2, 1, 2], [1, 0, 1, 3, 0], [1, 0, 1, 4, 0], [5, 6]])

    def test_has_its_own_room(self):
        # On four cells a turn counts 5.
        self.assertEqual(kept(page(2, 2, 0, 1000), page(2, 2, 0, 5), TURN, TURN), 1)
        self.assertEqual(kept(page(2, 2, 0, 5), page(2, 2, 0, 10), TURN, TURN), 2)

    def test_refused_leaves_all_as_it_was(self):
        for wrong in (page(0, 1), page(7, 1), page(1, 0), page(1, 7), page(1, 1, 256), page(1, 1, 0, 1001)):
            rows = ask(page(3, 2, 0, 14), LAYER, box(0, 0, 1, 2), wrong, box(0, 0, 1, 2), TURN, like(2, 1, 0))
            self.assertEqual(rows, [[0, 0, 6, 0, 0], [1, 0, 6, 1, 0], [1, 0, 2, 2, 0], [-1],
                                    [1, 0, 2, 2, 0], [1, 0, 4, 2, 0], [1, 0, 6, 2, 0]])


if __name__ == "__main__":
    unittest.main()
