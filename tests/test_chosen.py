"""box, like and turn: what is chosen."""

import unittest

from tests.lines import (GREATEST, LAYER, TURN, ask, box, chosen_cells, fill, last, like, page, set_it)


class Boxes(unittest.TestCase):
    def chosen(self, *calls):
        return chosen_cells((page(4, 3), *calls), 4, 3)

    def test_the_columns_and_rows_from_there_on(self):
        self.assertEqual(self.chosen(box(1, 0, 2, 1)), [1, 2])
        self.assertEqual(self.chosen(box(1, 1, 2, 2)), [5, 6, 9, 10])
        self.assertEqual(self.chosen(box(0, 0, 1, 3)), [0, 4, 8])
        self.assertEqual(self.chosen(box(3, 2, 1, 1)), [11])
        self.assertEqual(last(page(4, 3), box(1, 1, 2, 2)), [0, 0, 4, 1, 0])

    def test_all_that_is_asked_is_answered(self):
        self.assertEqual(ask(page(4, 3), box(1, 1, 2, 2), box(2, 1, 2, 2, 1), box(0, 0, 4, 2, 2)),
                         [[0, 0, 12, 0, 0], [0, 0, 4, 1, 0], [0, 0, 6, 2, 0], [0, 0, 3, 3, 0]])

    def test_how_0_chooses_them_alone(self):
        self.assertEqual(self.chosen(box(0, 0, 2, 2), box(1, 1, 2, 2, 0)), [5, 6, 9, 10])

    def test_how_1_chooses_them_too(self):
        self.assertEqual(self.chosen(box(0, 0, 2, 2), box(1, 1, 2, 2, 1)), [0, 1, 4, 5, 6, 9, 10])

    def test_how_2_takes_them_out(self):
        self.assertEqual(self.chosen(box(0, 0, 2, 2), box(1, 1, 2, 2, 2)), [0, 1, 4])

    def test_how_3_leaves_just_these(self):
        self.assertEqual(self.chosen(box(0, 0, 2, 2), box(1, 1, 2, 2, 3)), [5])

    def test_beyond_the_page(self):
        self.assertEqual(self.chosen(box(3, 1, 5, 5)), [7, 11])
        self.assertEqual(self.chosen(box(2, 0, GREATEST, 1)), [2, 3])
        self.assertEqual(self.chosen(box(0, 2, 1, GREATEST)), [8])
        self.assertEqual(self.chosen(box(0, 0, GREATEST, GREATEST)), list(range(12)))

    def test_wholly_beyond_the_page(self):
        for away in (box(4, 0, 1, 1), box(0, 3, 1, 1), box(GREATEST, 0, GREATEST, 3),
                     box(0, GREATEST, 4, GREATEST), box(GREATEST, GREATEST, GREATEST, GREATEST)):
            self.assertEqual(last(page(4, 3), away), [0, 0, 0, 1, 0])

    def test_of_no_columns_or_rows(self):
        for u, v in ((0, 3), (4, 0), (0, 0)):
            self.assertEqual(last(page(4, 3), box(0, 0, u, v, 0)), [0, 0, 0, 1, 0])
            self.assertEqual(last(page(4, 3), box(0, 0, u, v, 1)), [0, 0, 12, 0, 0])
            self.assertEqual(last(page(4, 3), box(0, 0, u, v, 2)), [0, 0, 12, 0, 0])
            self.assertEqual(last(page(4, 3), box(0, 0, u, v, 3)), [0, 0, 0, 1, 0])

    def test_how_up_to_3(self):
        self.assertEqual(last(page(4, 3), box(0, 0, 1, 1, 3)), [0, 0, 1, 1, 0])
        self.assertEqual(ask(box(0, 0, 1, 1, 4), box(0, 0, 1, 1, GREATEST)), [[-3], [-3]])

    def test_beyond_the_page_with_a_wrong_how(self):
        self.assertEqual(ask(box(GREATEST, GREATEST, 0, 0, 4)), [[-3]])

    def test_refused_leaves_all_as_it_was(self):
        self.assertEqual(ask(page(4, 3), box(0, 0, 1, 1), box(1, 1, 1, 1, 4), box(0, 0, 1, 1))[1:],
                         [[0, 0, 1, 1, 0], [-3], [0, 0, 1, 1, 0]])

    def test_needs_no_layer_and_leaves_layers(self):
        self.assertEqual(ask(page(2, 1), LAYER, LAYER, box(0, 0, 1, 1))[-1], [2, 1, 1, 3, 0])


class Turning(unittest.TestCase):
    def test_chosen_is_just_what_was_not(self):
        self.assertEqual(ask(page(3, 2), TURN, TURN), [[0, 0, 6, 0, 0], [0, 0, 0, 1, 0], [0, 0, 6, 2, 0]])
        self.assertEqual(chosen_cells((page(3, 2), box(1, 0, 2, 1), TURN), 3, 2), [0, 3, 4, 5])


def drawn(w, h, tones):
    """A page on which the picture has these tones, by one layer over a ground of 0."""
    calls = [page(w, h), LAYER]
    for cell, tone in enumerate(tones):
        if tone > 0:
            calls += [box(cell % w, cell // w, 1, 1), fill(tone, 255)]
    return [*calls, box(0, 0, w, h)]


class Alike(unittest.TestCase):
    def test_just_met_and_just_missed(self):
        calls = drawn(3, 1, [0, 20, 50])
        self.assertEqual(chosen_cells([*calls, like(0, 0, 19)], 3, 1), [0])
        self.assertEqual(chosen_cells([*calls, like(0, 0, 20)], 3, 1), [0, 1])
        self.assertEqual(chosen_cells([*calls, like(0, 0, 29)], 3, 1), [0, 1])
        self.assertEqual(chosen_cells([*calls, like(2, 0, 29)], 3, 1), [2])
        self.assertEqual(chosen_cells([*calls, like(2, 0, 30)], 3, 1), [0, 1, 2])

    def test_from_cell_to_cell_not_from_the_first(self):
        calls = drawn(5, 1, [10, 20, 30, 40, 51])
        self.assertEqual(chosen_cells([*calls, like(0, 0, 10)], 5, 1), [0, 1, 2, 3])
        self.assertEqual(chosen_cells([*calls, like(4, 0, 10)], 5, 1), [4])
        self.assertEqual(chosen_cells([*calls, like(2, 0, 10)], 5, 1), [0, 1, 2, 3])

    def test_t_0_and_the_greatest(self):
        calls = drawn(3, 1, [5, 5, 255])
        self.assertEqual(chosen_cells([*calls, like(0, 0, 0)], 3, 1), [0, 1])
        self.assertEqual(chosen_cells([*calls, like(2, 0, 0)], 3, 1), [2])
        self.assertEqual(chosen_cells([*calls, like(0, 0, GREATEST)], 3, 1), [0, 1, 2])

    def test_a_side_in_common(self):
        # Cells that only meet at a corner are not beside one another.
        calls = drawn(3, 3, [9, 0, 9,
                             0, 9, 0,
                             9, 0, 9])
        for cell in range(9):
            self.assertEqual(chosen_cells([*calls, like(cell % 3, cell // 3, 8)], 3, 3), [cell])

    def test_a_row_end_is_not_beside_the_next_row(self):
        calls = drawn(3, 2, [0, 9, 9,
                             9, 9, 0])
        self.assertEqual(chosen_cells([*calls, like(2, 0, 0)], 3, 2), [1, 2, 3, 4])
        calls = drawn(3, 2, [0, 0, 9,
                             9, 0, 0])
        self.assertEqual(chosen_cells([*calls, like(2, 0, 0)], 3, 2), [2])
        self.assertEqual(chosen_cells([*calls, like(0, 1, 0)], 3, 2), [3])

    def test_round_about_in_all_four_ways(self):
        # A snail: one comes to its end only by going right, down, left and up.
        calls = drawn(4, 4, [0, 0, 0, 0,
                             9, 9, 9, 0,
                             0, 0, 9, 0,
                             0, 9, 9, 0])
        open_way = [0, 1, 2, 3, 7, 11, 15]
        self.assertEqual(chosen_cells([*calls, like(0, 0, 8)], 4, 4), open_way)
        self.assertEqual(chosen_cells([*calls, like(3, 3, 8)], 4, 4), open_way)
        self.assertEqual(chosen_cells([*calls, like(0, 1, 8)], 4, 4), [4, 5, 6, 10, 13, 14])
        self.assertEqual(chosen_cells([*calls, like(1, 3, 8)], 4, 4), [4, 5, 6, 10, 13, 14])
        self.assertEqual(chosen_cells([*calls, like(1, 2, 8)], 4, 4), [8, 9, 12])

    def test_along_each_side_of_the_page(self):
        left = drawn(2, 2, [0, 9, 0, 9])
        upper = drawn(2, 2, [0, 0, 9, 9])
        for y in (0, 1):
            self.assertEqual(chosen_cells([*left, like(0, y, 0)], 2, 2), [0, 2])
            self.assertEqual(chosen_cells([*left, like(1, y, 0)], 2, 2), [1, 3])
        for x in (0, 1):
            self.assertEqual(chosen_cells([*upper, like(x, 0, 0)], 2, 2), [0, 1])
            self.assertEqual(chosen_cells([*upper, like(x, 1, 0)], 2, 2), [2, 3])

    def test_by_how(self):
        calls = drawn(4, 1, [0, 0, 9, 9])
        near = [*calls, box(1, 0, 2, 1)]
        self.assertEqual(chosen_cells([*near, like(0, 0, 0, 0)], 4, 1), [0, 1])
        self.assertEqual(chosen_cells([*near, like(0, 0, 0, 1)], 4, 1), [0, 1, 2])
        self.assertEqual(chosen_cells([*near, like(0, 0, 0, 2)], 4, 1), [2])
        self.assertEqual(chosen_cells([*near, like(0, 0, 0, 3)], 4, 1), [1])

    def test_goes_by_the_picture_not_by_what_is_chosen_or_worked_on(self):
        calls = [*drawn(3, 1, [0, 9, 0]), TURN, like(0, 0, 9)]
        self.assertEqual(chosen_cells(calls, 3, 1), [0, 1, 2])
        calls = [*drawn(3, 1, [0, 9, 0]), LAYER, like(0, 0, 8)]
        self.assertEqual(chosen_cells(calls, 3, 1), [0])
        calls = [*drawn(3, 1, [0, 9, 0]), set_it(0, 255, 0), like(0, 0, 0)]
        self.assertEqual(chosen_cells(calls, 3, 1), [0, 1, 2])

    def test_without_layers_the_ground_is_one(self):
        self.assertEqual(ask(page(3, 2, 77), TURN, like(2, 1, 0)),
                         [[0, 0, 6, 0, 0], [0, 0, 0, 1, 0], [0, 0, 6, 2, 0]])

    def test_no_such_cell(self):
        self.assertEqual(last(page(3, 2), like(2, 1, 0)), [0, 0, 6, 0, 0])
        for x, y in ((3, 0), (0, 2), (3, 2), (GREATEST, 0), (0, GREATEST), (GREATEST, GREATEST)):
            self.assertEqual(last(page(3, 2), like(x, y, 0)), [-1])

    def test_how_up_to_3(self):
        self.assertEqual(last(page(3, 2), like(0, 0, 0, 3)), [0, 0, 6, 0, 0])
        self.assertEqual(ask(like(0, 0, 0, 4), like(0, 0, 0, GREATEST)), [[-3], [-3]])

    def test_no_such_cell_is_told_first(self):
        self.assertEqual(ask(page(3, 2), like(3, 0, 0, 4), like(0, 2, 0, GREATEST))[1:], [[-1], [-1]])

    def test_refused_leaves_all_as_it_was(self):
        for wrong, refusal in ((like(2, 0, 0), -1), (like(1, 0, 0, 4), -3)):
            self.assertEqual(ask(page(2, 1), box(0, 0, 1, 1), wrong, box(0, 0, 1, 1))[1:],
                             [[0, 0, 1, 1, 0], [refusal], [0, 0, 1, 1, 0]])


if __name__ == "__main__":
    unittest.main()
