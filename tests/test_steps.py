"""Steps: what is one, what it counts, and which are kept."""

import unittest

from layeredpage.pages import Document, Layer, new_document, same_document
from layeredpage.steps import step_size
from tests.lines import (COPY, CUT, DROP, LAYER, PRESS, RAISE, SOFT, STEPS, TURN, ask, box, bright, fill, kept, last,
                         like, page, paste, pick, set_it, shift)


class WhatAStepCounts(unittest.TestCase):
    def counts(self, w, h, size, *calls):
        """Checks that the last call counts so much: it is kept in just that room, and not in less."""
        self.assertNotEqual(kept(page(w, h, 0, size), *calls), 0)
        self.assertEqual(kept(page(w, h, 0, size - 1), *calls), 0)
        self.assertEqual(kept(page(w, h, 0, 1000), *calls), kept(page(w, h, 0, 1000), *calls[:-1]) + 1)

    def test_a_layer_counts_all_its_cells_and_1(self):
        self.counts(3, 2, 7, LAYER)
        self.counts(6, 6, 37, LAYER)
        self.counts(3, 2, 7, LAYER, LAYER)
        self.counts(3, 2, 7, LAYER, LAYER, pick(0), LAYER)

    def test_a_layer_that_is_gone_as_well(self):
        self.counts(3, 2, 7, LAYER, DROP)
        self.counts(3, 2, 7, LAYER, box(0, 0, 1, 1), fill(9, 9), LAYER, pick(0), DROP)

    def test_pick_raise_and_set_count_1(self):
        self.counts(3, 2, 1, LAYER, LAYER, pick(0))
        self.counts(3, 2, 1, LAYER, fill(9, 9), LAYER, fill(7, 7), pick(0), RAISE)
        self.counts(3, 2, 1, LAYER, set_it(1, 255, 1))
        self.counts(3, 2, 1, LAYER, set_it(0, 254, 1))
        self.counts(3, 2, 1, LAYER, set_it(0, 255, 0))
        self.counts(3, 2, 1, LAYER, set_it(3, 0, 0))

    def test_what_is_chosen_counts_where_it_differs(self):
        self.counts(3, 2, 7, TURN)
        self.counts(3, 2, 5, box(0, 0, 2, 1))
        self.counts(3, 2, 2, box(0, 0, 1, 1, 2))
        self.counts(3, 2, 5, box(0, 0, 2, 1), box(1, 0, 2, 2))
        self.counts(3, 2, 4, box(0, 0, 3, 1), like(0, 0, 0))

    def test_cells_count_where_they_differ(self):
        self.counts(3, 2, 7, LAYER, fill(9, 9))
        self.counts(3, 2, 3, LAYER, box(0, 0, 2, 1), fill(9, 9))
        self.counts(3, 2, 5, LAYER, box(0, 0, 2, 1), fill(9, 9), TURN, TURN, box(0, 0, 3, 2), fill(9, 9))

    def test_a_cell_differs_by_its_tone_or_by_how_much(self):
        self.counts(3, 2, 7, LAYER, fill(9, 9), fill(9, 8))
        self.counts(3, 2, 7, LAYER, fill(9, 9), fill(8, 9))
        self.counts(3, 2, 7, LAYER, fill(9, 9), bright(1, 1))

    def test_bright_counts_only_what_was_not_at_the_end_yet(self):
        self.counts(3, 2, 5, LAYER, box(0, 0, 2, 1), fill(255, 9), box(0, 0, 3, 2), bright(1, 255))

    def test_soft_counts_the_cells_that_came_out_otherwise(self):
        # The left column of two has it; in the third column nothing is around.
        self.counts(4, 1, 3, LAYER, box(0, 0, 2, 1), fill(50, 90), box(0, 0, 4, 1), SOFT)

    def test_shift_counts_the_cells_that_have_something_else_then(self):
        one = (LAYER, box(0, 0, 1, 1), fill(9, 9), box(0, 0, 6, 6))
        self.counts(3, 2, 3, *one, shift(1, 0))
        self.counts(3, 2, 2, *one, box(0, 0, 1, 2), shift(1, 0))
        self.counts(3, 2, 5, LAYER, box(0, 0, 1, 2), fill(9, 9), box(0, 0, 6, 6), shift(2, 1))

    def test_cut_and_paste_count_the_cells_that_differ(self):
        two = (LAYER, box(0, 0, 2, 1), fill(9, 9), box(0, 0, 6, 6))
        self.counts(3, 2, 3, *two, CUT)
        self.counts(3, 2, 2, *two, box(1, 0, 2, 2), CUT)
        # The two come to columns 1 and 2, over one that has the same; the rest of the page comes beside it.
        self.counts(3, 2, 2, *two, COPY, paste(1, 0))
        self.counts(3, 2, 3, *two, COPY, paste(0, 1))

    def test_press_counts_the_layer_and_where_the_ground_differs(self):
        self.counts(3, 2, 7, LAYER, PRESS)
        self.counts(3, 2, 9, LAYER, box(0, 0, 2, 1), fill(9, 255), PRESS)
        self.counts(3, 2, 13, LAYER, fill(9, 255), PRESS)
        self.counts(3, 2, 7, LAYER, fill(9, 255), set_it(0, 255, 0), PRESS)
        self.counts(3, 2, 9, LAYER, box(0, 0, 2, 1), fill(9, 255), LAYER, fill(8, 8), PRESS)

    def test_each_told_the_last_first(self):
        # Pressed, both cells come from 50 to 48: 2, the layer's 6, and 1.
        calls = (page(3, 2, 50), LAYER, box(0, 0, 2, 1), fill(9, 255), CUT, set_it(1, 9, 1), paste(0, 0), PRESS, TURN)
        self.assertEqual(last(*calls, STEPS), [8, 7, 9, 3, 1, 3, 3, 5, 7, 0])

    def test_the_layer_is_found_by_its_number(self):
        # The filled layer was raised above the other: its own cells are what counts.
        self.counts(3, 2, 2, LAYER, fill(9, 9), LAYER, pick(0), RAISE, box(0, 0, 1, 1), fill(7, 7))


class WhatIsNoStep(unittest.TestCase):
    def test_a_command_that_leaves_the_document_as_it_was(self):
        same = ((pick(0),), (set_it(0, 255, 1),), (box(0, 0, 6, 6),), (box(0, 0, 0, 0, 1),), (box(0, 0, 0, 0, 2),),
                (box(0, 0, 6, 6, 3),), (like(0, 0, 0),), (fill(0, 0),), (bright(0, 9),), (bright(1, 0),), (SOFT,),
                (shift(1, 1),), (CUT,), (COPY,), (COPY, paste(0, 0)), (COPY, paste(1, 1)))
        for calls in same:
            self.assertEqual(ask(page(2, 2), LAYER, *calls)[-1], [1, 0, 4, 1, 0], calls)

    def test_takes_no_room(self):
        rows = ask(page(2, 2, 0, 5), LAYER, fill(0, 0), SOFT, pick(0), box(0, 0, 2, 2))
        self.assertEqual(rows[1:], [[1, 0, 4, 1, 0]] * 5)

    def test_there_and_back_are_two_steps(self):
        self.assertEqual(kept(page(2, 2), TURN, TURN), 2)
        self.assertEqual(kept(page(2, 2), LAYER, fill(3, 3), fill(0, 0)), 3)

    def test_refused_is_no_step(self):
        rows = ask(page(2, 2, 0, 5), LAYER, fill(256, 0), pick(1), RAISE, box(0, 0, 1, 1, 4), page(7, 1), TURN)
        self.assertEqual(rows[1:], [[1, 0, 4, 1, 0], [-3], [-2], [-2], [-3], [-1], [1, 0, 0, 1, 0]])


class TheSameDocument(unittest.TestCase):
    def made(self, ground=7, number=1, way=0, much=255, shown=1, cell=(0, 0), worked=0, chosen=1):
        layers = [Layer(number, way, much, shown, [cell])]
        return Document(1, 1, [ground], layers, worked, [chosen], 1)

    def test_differs_by_each_thing_it_has(self):
        self.assertTrue(same_document(self.made(), self.made()))
        for other in ({"ground": 8}, {"number": 2}, {"way": 1}, {"much": 0}, {"shown": 0}, {"cell": (1, 0)},
                      {"cell": (0, 1)}, {"worked": 1}, {"chosen": 0}):
            self.assertFalse(same_document(self.made(), self.made(**other)), other)
        self.assertFalse(same_document(self.made(), new_document(1, 1, 7)))

    def test_a_step_counts_where_the_ground_differs(self):
        self.assertEqual(step_size(self.made(), self.made(ground=8)), 2)


class WhichAreKept(unittest.TestCase):
    def undoable(self, *calls):
        return [row[3] for row in ask(*calls)]

    def test_as_many_as_count_no_more_than_the_room(self):
        # On four cells a turn counts 5.
        self.assertEqual(self.undoable(page(2, 2, 0, 15), TURN, TURN, TURN, TURN), [0, 1, 2, 3, 3])
        self.assertEqual(self.undoable(page(2, 2, 0, 14), TURN, TURN, TURN, TURN), [0, 1, 2, 2, 2])

    def test_the_oldest_are_forgotten_first(self):
        # 5, then four times 1, are 9; one more forgets the 5 and leaves room for four others.
        small = [pick(0), pick(1)] * 5
        self.assertEqual(self.undoable(page(2, 2, 0, 9), LAYER, LAYER, *small),
                         [0, 1, 1, 2, 3, 4, 5, 5, 6, 7, 8, 9, 9])

    def test_several_are_forgotten_for_one_that_counts_much(self):
        calls = (page(2, 2, 0, 9), LAYER, LAYER, pick(0), pick(1), pick(0), pick(1), pick(0), pick(1), TURN)
        self.assertEqual(self.undoable(*calls), [0, 1, 1, 2, 3, 4, 5, 5, 6, 5])

    def test_not_even_the_newest(self):
        self.assertEqual(self.undoable(page(2, 2, 0, 4), TURN, TURN), [0, 0, 0])
        self.assertEqual(self.undoable(page(2, 2, 0, 4), box(0, 0, 2, 1, 2), box(0, 0, 1, 1), TURN),
                         [0, 1, 1, 0])
        self.assertEqual(self.undoable(page(2, 2, 0, 0), LAYER, set_it(1, 1, 1), TURN), [0, 0, 0, 0])

    def test_one_too_great_forgets_the_ones_ahead_of_it_too(self):
        calls = (page(2, 2, 0, 4), box(0, 0, 1, 1, 2), LAYER, pick(0), set_it(1, 1, 1))
        self.assertEqual(self.undoable(*calls), [0, 1, 0, 0, 1])

    def test_a_step_that_is_not_kept_is_done_all_the_same(self):
        self.assertEqual(ask(page(2, 2, 0, 0), LAYER, LAYER, TURN, pick(0), DROP),
                         [[0, 0, 4, 0, 0], [1, 0, 4, 0, 0], [2, 1, 4, 0, 0], [2, 1, 0, 0, 0],
                          [2, 0, 0, 0, 0], [1, 0, 0, 0, 0]])

    def test_the_greatest_room(self):
        # A layer of 36 cells counts 37, as dropping it does: 27 of them are 999.
        calls = [page(6, 6, 0, 1000)] + [LAYER, DROP] * 14
        self.assertEqual(self.undoable(*calls)[-3:], [26, 27, 27])


if __name__ == "__main__":
    unittest.main()
