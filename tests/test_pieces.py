"""shift, cut, copy and paste: what of a layer comes elsewhere."""

import unittest

from layeredpage.changes import pasted, shifted
from tests.lines import (ALL_SEEN, COPY, CUT, DROP, GREATEST, LAYER, LIST, REDO, STEPS, TURN, UNDO, ask, asked, box,
                         bright, cells, dots, fill, last, numbered, page, paste, pick, set_it, shift, tones)

WHOLE = box(0, 0, 6, 6)


class Shifting(unittest.TestCase):
    def test_each_cell_has_what_was_further_left_and_further_up(self):
        wide = numbered(4, 2)
        self.assertEqual(tones(wide), [1, 2, 3, 4, 11, 12, 13, 14])
        self.assertEqual(tones([*wide, shift(1, 0)]), [4, 1, 2, 3, 14, 11, 12, 13])
        self.assertEqual(tones([*wide, shift(3, 0)]), [2, 3, 4, 1, 12, 13, 14, 11])
        self.assertEqual(tones([*wide, shift(0, 1)]), [11, 12, 13, 14, 1, 2, 3, 4])
        self.assertEqual(tones([*wide, shift(1, 1)]), [14, 11, 12, 13, 4, 1, 2, 3])
        high = numbered(2, 4)
        self.assertEqual(tones(high), [1, 2, 11, 12, 21, 22, 31, 32])
        self.assertEqual(tones([*high, shift(1, 0)]), [2, 1, 12, 11, 22, 21, 32, 31])
        self.assertEqual(tones([*high, shift(0, 1)]), [31, 32, 1, 2, 11, 12, 21, 22])
        self.assertEqual(tones([*high, shift(1, 3)]), [12, 11, 22, 21, 32, 31, 2, 1])

    def test_round_again_on_every_page(self):
        far = (0, 1, 2, 3, 4, 5, 6, 7, 13, GREATEST - 1, GREATEST)
        for w, h in ((1, 1), (5, 1), (1, 5), (3, 2), (2, 3), (6, 6)):
            was = [(cell, 255 - cell) for cell in range(w * h)]
            for x in far:
                for y in far:
                    expected = [was[(row - y) % h * w + (column - x) % w] for row in range(h) for column in range(w)]
                    self.assertEqual(shifted(was, [1] * (w * h), w, h, x, y), expected, (w, h, x, y))

    def test_by_just_the_page_or_by_0_is_no_step(self):
        for w, h in ((4, 2), (2, 4)):
            calls = numbered(w, h)
            stood = last(*calls)
            for x, y in ((0, 0), (w, 0), (0, h), (w, h), (2 * w, 3 * h), (4294967292, 4294967292)):
                self.assertEqual(asked([*calls, shift(x, y)], WHOLE), [stood], (w, h, x, y))

    def test_by_more_than_the_page(self):
        wide = numbered(4, 2)
        for x, y in ((5, 2), (9, 4), (5, 0), (1, 2)):
            self.assertEqual(tones([*wide, shift(x, y)]), [4, 1, 2, 3, 14, 11, 12, 13])

    def test_by_the_greatest_number(self):
        # 4294967295 is 3 more than four times something, 1 more than twice something, and three times something.
        self.assertEqual(tones([*numbered(4, 2), shift(GREATEST, 0)]), [2, 3, 4, 1, 12, 13, 14, 11])
        self.assertEqual(tones([*numbered(2, 4), shift(GREATEST, GREATEST)]), [12, 11, 22, 21, 32, 31, 2, 1])
        self.assertEqual(tones([*numbered(3, 3), shift(GREATEST, GREATEST)]), tones(numbered(3, 3)))

    def test_only_the_chosen_cells_change_but_others_are_taken_from(self):
        calls = [*numbered(4, 2), box(1, 0, 2, 1)]
        self.assertEqual(tones([*calls, shift(1, 0)]), [1, 1, 2, 4, 11, 12, 13, 14])
        self.assertEqual(tones([*calls, shift(0, 1)]), [1, 12, 13, 4, 11, 12, 13, 14])
        self.assertEqual(tones([*calls, TURN, shift(1, 1)]), [14, 2, 3, 13, 4, 1, 2, 3])
        self.assertEqual(last(*calls, shift(1, 0), STEPS)[:2], [13, 3])

    def test_no_cell_chosen_is_no_step(self):
        calls = [*numbered(3, 2), TURN]
        self.assertEqual(asked(calls, shift(1, 1), dots(0)), [last(*calls), last(*calls, dots(0))])

    def test_both_of_a_cell_move(self):
        calls = [page(2, 1), LAYER, box(0, 0, 1, 1), fill(10, 20), TURN, fill(30, 0), WHOLE]
        self.assertEqual(cells([*calls, shift(1, 0)]), [(30, 0), (10, 20)])

    def test_the_layer_worked_on_alone(self):
        calls = [*numbered(2, 1), LAYER, shift(1, 0)]
        self.assertEqual(tones(calls, 0), [1, 2])
        self.assertEqual(tones([*calls, pick(0), shift(1, 0)], 0), [2, 1])
        self.assertEqual(tones([*calls, pick(0), shift(1, 0)], 1), [0, 0])

    def test_answers_how_it_stands(self):
        self.assertEqual(ask(page(2, 1), LAYER, box(0, 0, 1, 1), fill(5, 5), shift(1, 0), shift(2, 2), UNDO)[3:],
                         [[1, 0, 1, 3, 0], [1, 0, 1, 4, 0], [1, 0, 1, 4, 0], [1, 0, 1, 3, 1]])

    def test_no_layer(self):
        self.assertEqual(ask(TURN, shift(0, 0), shift(GREATEST, 1), TURN),
                         [[0, 0, 0, 1, 0], [-2], [-2], [0, 0, 1, 2, 0]])

    def test_what_was_is_not_written_over(self):
        was = [(1, 2), (3, 4)]
        self.assertEqual(shifted(was, [1, 0], 2, 1, 1, 0), [(3, 4), (3, 4)])
        self.assertEqual(was, [(1, 2), (3, 4)])


class Cutting(unittest.TestCase):
    def test_the_chosen_cells_are_without_anything(self):
        calls = [page(3, 1), LAYER, fill(9, 8), box(1, 0, 2, 1), CUT]
        self.assertEqual(cells(calls), [(9, 8), (0, 0), (0, 0)])
        self.assertEqual(asked(calls[:-1], CUT, STEPS), [[1, 0, 2, 4, 0], [4, 3, 2, 4, 4, 0]])

    def test_a_tone_of_which_there_is_nothing_is_cut_too(self):
        calls = [page(2, 1), LAYER, fill(9, 0), CUT]
        self.assertEqual(cells(calls), [(0, 0)] * 2)
        self.assertEqual(last(*calls), [1, 0, 2, 3, 0])
        self.assertEqual(cells([*calls, paste(0, 0)]), [(9, 0)] * 2)

    def test_the_layer_worked_on_alone(self):
        calls = [page(2, 1), LAYER, fill(1, 1), LAYER, fill(2, 2), LAYER, fill(3, 3), pick(1), CUT]
        self.assertEqual([cells(calls, place)[0] for place in range(3)], [(1, 1), (0, 0), (3, 3)])
        self.assertEqual(cells([*calls, pick(0), paste(1, 0)], 0), [(1, 1), (2, 2)])

    def test_where_nothing_changes_it_is_no_step_but_cuts_out(self):
        calls = [page(2, 1), LAYER, box(0, 0, 1, 1), CUT]
        self.assertEqual(asked(calls, STEPS), [[2, 2, 3, 0]])
        # The cell without anything comes over what is there by then.
        self.assertEqual(cells([*calls, TURN, fill(5, 5), paste(1, 0)]), [(0, 0), (0, 0)])

    def test_where_nothing_changes_what_was_undone_can_be_done_again(self):
        rows = ask(page(2, 1), LAYER, fill(5, 5), UNDO, CUT, REDO, dots(0), paste(0, 0), dots(0))
        self.assertEqual(rows[3:], [[1, 0, 2, 1, 1], [1, 0, 2, 1, 1], [1, 0, 2, 2, 0], [5, 5, 5, 5],
                                    [1, 0, 2, 3, 0], [0, 0, 0, 0]])

    def test_no_layer(self):
        self.assertEqual(ask(TURN, CUT, STEPS), [[0, 0, 0, 1, 0], [-2], [1, 2, 0]])


class Copying(unittest.TestCase):
    def test_stays_too(self):
        calls = numbered(3, 2)
        self.assertEqual(asked([*calls, COPY], *ALL_SEEN, STEPS), asked(calls, *ALL_SEEN, STEPS))
        self.assertEqual(last(*calls, COPY), last(*calls))

    def test_is_no_step_and_ends_nothing(self):
        rows = ask(LAYER, fill(5, 5), UNDO, COPY, REDO)
        self.assertEqual(rows[2:], [[1, 0, 1, 1, 1], [1, 0, 1, 1, 1], [1, 0, 1, 2, 0]])

    def test_no_layer(self):
        self.assertEqual(ask(TURN, COPY, STEPS), [[0, 0, 0, 1, 0], [-2], [1, 2, 0]])

    def test_what_is_copied_is_what_was_there_then(self):
        calls = [page(2, 1), LAYER, fill(5, 5), COPY, fill(7, 7), bright(1, 9), paste(1, 0)]
        self.assertEqual(cells(calls), [(16, 7), (5, 5)])

    def test_the_last_that_was_cut_out_counts(self):
        calls = [page(2, 1), LAYER, fill(5, 5), COPY, fill(7, 7), box(0, 0, 1, 1), CUT, WHOLE, fill(9, 9)]
        self.assertEqual(cells([*calls, paste(0, 0)]), [(7, 7), (9, 9)])
        calls = [page(2, 1), LAYER, fill(5, 5), CUT, fill(7, 7), box(0, 0, 1, 1), COPY, WHOLE, fill(9, 9)]
        self.assertEqual(cells([*calls, paste(0, 0)]), [(7, 7), (9, 9)])


class Pasting(unittest.TestCase):
    def test_to_each_column_and_row_from_there_on(self):
        # Counted from where the cell was on the page, not from the first that is cut out.
        calls = [*numbered(4, 3), box(1, 1, 2, 1), COPY]
        was = [1, 2, 3, 4, 11, 12, 13, 14, 21, 22, 23, 24]
        self.assertEqual(tones([*calls, paste(0, 0)]), was)
        self.assertEqual(tones([*calls, paste(1, 0)]), [1, 2, 3, 4, 11, 12, 12, 13, 21, 22, 23, 24])
        self.assertEqual(tones([*calls, paste(0, 1)]), [1, 2, 3, 4, 11, 12, 13, 14, 21, 12, 13, 24])
        self.assertEqual(tones([*calls, paste(1, 1)]), [1, 2, 3, 4, 11, 12, 13, 14, 21, 22, 12, 13])

    def test_only_the_cells_that_were_chosen(self):
        calls = [*numbered(3, 2), box(0, 0, 1, 1), box(1, 1, 1, 1, 1), COPY, TURN, fill(99, 9)]
        self.assertEqual(tones([*calls, paste(1, 0)]), [1, 1, 99, 99, 12, 12])

    def test_chosen_or_not(self):
        calls = [page(3, 1), LAYER, box(0, 0, 1, 1), fill(5, 6), COPY]
        self.assertEqual(cells([*calls, paste(2, 0)]), [(5, 6), (0, 0), (5, 6)])
        self.assertEqual(last(*calls, paste(2, 0)), [1, 0, 1, 4, 0])
        none = [*calls, box(0, 0, 0, 0)]
        self.assertEqual(cells([*none, paste(1, 0)]), [(5, 6), (5, 6), (0, 0)])
        self.assertEqual(last(*none, paste(1, 0)), [1, 0, 0, 5, 0])

    def test_cells_without_anything_come_over_what_is_there(self):
        calls = [page(3, 1), LAYER, box(0, 0, 1, 1), fill(5, 6), box(0, 0, 2, 1), COPY, WHOLE, fill(9, 9)]
        self.assertEqual(cells([*calls, paste(0, 0)]), [(5, 6), (0, 0), (9, 9)])
        self.assertEqual(cells([*calls, paste(1, 0)]), [(9, 9), (5, 6), (0, 0)])

    def test_partly_beyond_the_page(self):
        calls = [*numbered(3, 3), COPY]
        self.assertEqual(tones([*calls, paste(2, 0)]), [1, 2, 1, 11, 12, 11, 21, 22, 21])
        self.assertEqual(tones([*calls, paste(0, 2)]), [1, 2, 3, 11, 12, 13, 1, 2, 3])
        self.assertEqual(tones([*calls, paste(2, 1)]), [1, 2, 3, 11, 12, 1, 21, 22, 11])
        self.assertEqual(tones([*calls, paste(2, 2)]), [1, 2, 3, 11, 12, 13, 21, 22, 1])

    def test_not_round_again(self):
        calls = [*numbered(3, 2), box(2, 0, 1, 1), COPY]
        self.assertEqual(asked([*calls, paste(1, 0)], dots(0)), asked(calls, dots(0)))
        calls = [*numbered(3, 2), box(0, 1, 1, 1), COPY]
        self.assertEqual(asked([*calls, paste(0, 1)], dots(0)), asked(calls, dots(0)))

    def test_wholly_beyond_the_page_is_no_step(self):
        calls = [*numbered(3, 2), COPY]
        for x, y in ((3, 0), (0, 2), (3, 2), (GREATEST, 0), (0, GREATEST), (GREATEST, GREATEST), (4294967293, 0)):
            self.assertEqual(asked([*calls, paste(x, y)], WHOLE, dots(0)), asked(calls, WHOLE, dots(0)), (x, y))
            self.assertEqual(last(*calls, paste(x, y)), last(*calls))

    def test_of_no_cells_is_no_step_and_not_refused(self):
        for taking in (COPY, CUT):
            calls = [page(2, 1), LAYER, fill(5, 5), TURN, taking]
            self.assertEqual(asked(calls, paste(0, 0), STEPS, dots(0)),
                             [[1, 0, 0, 3, 0], [3, 3, 3, 3, 0], [5, 5, 5, 5]])

    def test_taking_no_cells_forgets_what_was_cut_out_ahead_of_it(self):
        for taking in (COPY, CUT):
            calls = [page(2, 1), LAYER, fill(5, 5), COPY, TURN, taking, TURN, fill(7, 7), paste(0, 0)]
            self.assertEqual(cells(calls), [(7, 7)] * 2)

    def test_again_and_into_another_layer(self):
        calls = [page(3, 1), LAYER, box(0, 0, 1, 1), fill(5, 6), CUT, LAYER, paste(0, 0), paste(1, 0), pick(0),
                 paste(2, 0)]
        self.assertEqual(cells(calls, 1), [(5, 6), (5, 6), (0, 0)])
        self.assertEqual(cells(calls, 0), [(0, 0), (0, 0), (5, 6)])

    def test_only_cells_come_along(self):
        rows = ask(LAYER, set_it(2, 100, 0), fill(5, 6), CUT, LAYER, paste(0, 0), LIST)
        self.assertEqual(rows[-1], [2, 1, 2, 100, 0, 0, 2, 0, 255, 1, 1])

    def test_neither_copy_nor_cut_was_done(self):
        self.assertEqual(ask(LAYER, fill(5, 5), paste(0, 0), paste(GREATEST, GREATEST), STEPS, dots(0))[2:],
                         [[-4], [-4], [2, 2, 2, 0], [5, 5]])

    def test_refused_keeps_what_was_undone(self):
        self.assertEqual(ask(LAYER, fill(5, 5), UNDO, paste(0, 0), REDO)[2:], [[1, 0, 1, 1, 1], [-4], [1, 0, 1, 2, 0]])

    def test_no_layer_is_told_first(self):
        self.assertEqual(ask(paste(0, 0), paste(GREATEST, 0)), [[-2], [-2]])
        self.assertEqual(ask(LAYER, COPY, DROP, paste(0, 0))[3:], [[-2]])

    def test_what_was_is_not_written_over(self):
        was = [(1, 2), (3, 4)]
        self.assertEqual(pasted(was, 2, 1, [(0, 0, (9, 9))], 1, 0), [(1, 2), (9, 9)])
        self.assertEqual(was, [(1, 2), (3, 4)])


class WhatIsCutOut(unittest.TestCase):
    def test_is_not_undone(self):
        calls = [page(2, 1), LAYER, fill(5, 6), box(0, 0, 1, 1), CUT, UNDO]
        self.assertEqual(cells(calls), [(5, 6)] * 2)
        self.assertEqual(cells([*calls, fill(9, 9), paste(1, 0)]), [(9, 9), (5, 6)])
        self.assertEqual(cells([*calls, REDO, paste(1, 0)]), [(0, 0), (5, 6)])

    def test_stays_when_the_layer_it_came_from_is_undone(self):
        calls = [page(2, 1), LAYER, fill(5, 6), COPY, UNDO, UNDO, LAYER, paste(0, 0)]
        self.assertEqual(cells(calls), [(5, 6)] * 2)

    def test_is_not_undone_to_what_was_cut_out_ahead_of_it(self):
        calls = [LAYER, fill(5, 6), CUT, fill(7, 8), CUT, UNDO, UNDO, UNDO, paste(0, 0)]
        self.assertEqual(cells(calls), [(7, 8)])

    def test_doing_a_cut_again_cuts_nothing_out(self):
        # What is copied between undoing the cut and doing it again stays.
        calls = [page(2, 1), LAYER, fill(5, 6), fill(7, 8), CUT, UNDO, UNDO, COPY, REDO, REDO, paste(0, 0)]
        self.assertEqual(cells(calls), [(5, 6)] * 2)

    def test_a_paste_undone_and_done_again(self):
        calls = [page(2, 1), LAYER, box(0, 0, 1, 1), fill(5, 6), COPY, paste(1, 0), UNDO]
        self.assertEqual(cells(calls), [(5, 6), (0, 0)])
        self.assertEqual(cells([*calls, REDO]), [(5, 6)] * 2)
        # Done again is what was pasted then, whatever is cut out by now.
        self.assertEqual(cells([*calls, CUT, UNDO, paste(1, 0)]), [(5, 6)] * 2)
        again = [page(2, 1), LAYER, fill(5, 6), COPY, fill(7, 8), paste(1, 0), UNDO, COPY, REDO]
        self.assertEqual(cells(again), [(7, 8), (5, 6)])

    def test_is_gone_with_a_new_page(self):
        for taking in (COPY, CUT):
            self.assertEqual(last(LAYER, fill(5, 6), taking, page(1, 1), LAYER, paste(0, 0)), [-4])
        self.assertEqual(last(LAYER, CUT, page(0, 1), paste(0, 0)), [1, 0, 1, 1, 0])

    def test_stays_when_a_copy_or_cut_is_refused(self):
        calls = [LAYER, fill(5, 6), COPY, DROP, COPY, CUT, LAYER, paste(0, 0)]
        self.assertEqual(ask(*calls)[4:6], [[-2], [-2]])
        self.assertEqual(cells(calls), [(5, 6)])

    def test_none_by_a_refused_one(self):
        self.assertEqual(ask(COPY, CUT, LAYER, paste(0, 0)), [[-2], [-2], [1, 0, 1, 1, 0], [-4]])


if __name__ == "__main__":
    unittest.main()
