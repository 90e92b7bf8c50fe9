"""fill, bright and soft: what becomes of the chosen cells of the layer that is worked on."""

import unittest

from layeredpage.changes import softened
from layeredpage.pictures import nearest
from tests.lines import (GREATEST, LAYER, SOFT, TURN, ask, box, bright, cell_is, fill, last, page, pick)

WHOLE = box(0, 0, 6, 6)


class Changing(unittest.TestCase):
    def check(self, calls, w, cells):
        for place, (tone, much) in enumerate(cells):
            self.assertTrue(cell_is(calls, place % w, place // w, tone, much), (place, tone, much))


class Filling(Changing):
    def test_the_chosen_cells_alone(self):
        self.assertEqual(ask(page(2, 2), LAYER, fill(7, 8), fill(7, 8)),
                         [[0, 0, 4, 0, 0], [1, 0, 4, 1, 0], [1, 0, 4, 2, 0], [1, 0, 4, 2, 0]])
        calls = [page(2, 2), LAYER, fill(7, 8), box(1, 0, 1, 2), fill(200, 100)]
        self.check(calls, 2, [(7, 8), (200, 100), (7, 8), (200, 100)])

    def test_the_layer_worked_on_alone(self):
        calls = [page(2, 1), LAYER, LAYER, LAYER, pick(1), fill(9, 10)]
        self.check([*calls, pick(0)], 2, [(0, 0)] * 2)
        self.check([*calls, pick(1)], 2, [(9, 10)] * 2)
        self.check([*calls, pick(2)], 2, [(0, 0)] * 2)

    def test_nothing_chosen_is_no_step(self):
        self.assertEqual(ask(page(2, 2), LAYER, TURN, fill(7, 8))[2:], [[1, 0, 0, 2, 0]] * 2)

    def test_a_tone_of_which_there_is_nothing_stays_a_tone(self):
        calls = [LAYER, fill(7, 0)]
        self.check(calls, 1, [(7, 0)])
        self.assertFalse(cell_is(calls, 0, 0, 0, 0))

    def test_edges(self):
        for tone, much in ((0, 0), (255, 255), (0, 255), (255, 0)):
            self.check([LAYER, fill(tone, much)], 1, [(tone, much)])
        for wrong in (256, GREATEST):
            self.assertEqual(last(LAYER, fill(wrong, 0)), [-3])
            self.assertEqual(last(LAYER, fill(0, wrong)), [-3])

    def test_no_layer_is_told_first(self):
        self.assertEqual(ask(fill(0, 0), fill(256, 0), fill(0, 256)), [[-2]] * 3)

    def test_refused_leaves_all_as_it_was(self):
        for wrong in (fill(256, 9), fill(9, 256)):
            calls = [page(2, 1), LAYER, fill(1, 2), wrong]
            self.check(calls, 2, [(1, 2)] * 2)
            self.assertEqual(ask(*calls, WHOLE)[-3:], [[1, 0, 2, 2, 0], [-3], [1, 0, 2, 2, 0]])


class Brightening(Changing):
    def test_more_and_less(self):
        self.check([LAYER, fill(100, 9), bright(1, 30)], 1, [(130, 9)])
        self.check([LAYER, fill(100, 9), bright(0, 30)], 1, [(70, 9)])
        self.assertEqual(ask(LAYER, fill(100, 9), bright(1, 30))[2:], [[1, 0, 1, 3, 0]])

    def test_from_0_to_255(self):
        self.check([LAYER, fill(225, 9), bright(1, 30)], 1, [(255, 9)])
        self.check([LAYER, fill(226, 9), bright(1, 30)], 1, [(255, 9)])
        self.check([LAYER, fill(30, 9), bright(0, 30)], 1, [(0, 9)])
        self.check([LAYER, fill(29, 9), bright(0, 30)], 1, [(0, 9)])
        self.check([LAYER, fill(1, 9), bright(1, 255)], 1, [(255, 9)])
        self.check([LAYER, fill(254, 9), bright(0, 255)], 1, [(0, 9)])

    def test_the_chosen_cells_of_the_layer_worked_on(self):
        calls = [page(2, 1), LAYER, fill(10, 5), LAYER, fill(20, 5), box(1, 0, 1, 1), bright(1, 3)]
        self.check([*calls, pick(0)], 2, [(10, 5), (10, 5)])
        self.check([*calls, pick(1)], 2, [(20, 5), (23, 5)])

    def test_a_cell_without_anything_has_a_tone_too(self):
        self.check([LAYER, bright(1, 40)], 1, [(40, 0)])

    def test_what_does_not_change_is_no_step(self):
        self.assertEqual(ask(LAYER, bright(0, 255), bright(1, 0), bright(0, 0)), [[1, 0, 1, 1, 0]] * 4)
        self.assertEqual(ask(LAYER, fill(255, 1), bright(1, 255))[1:], [[1, 0, 1, 2, 0]] * 2)

    def test_edges(self):
        for up in (2, GREATEST):
            self.assertEqual(last(LAYER, bright(up, 0)), [-3])
        for k in (256, GREATEST):
            self.assertEqual(last(LAYER, bright(0, k)), [-3])
            self.assertEqual(last(LAYER, bright(1, k)), [-3])

    def test_no_layer_is_told_first(self):
        self.assertEqual(ask(bright(0, 0), bright(2, 0), bright(0, 256)), [[-2]] * 3)

    def test_refused_leaves_all_as_it_was(self):
        for wrong in (bright(2, 9), bright(1, 256), bright(0, 256)):
            calls = [LAYER, fill(100, 2), wrong]
            self.check(calls, 1, [(100, 2)])
            self.assertEqual(ask(*calls, WHOLE)[-3:], [[1, 0, 1, 2, 0], [-3], [1, 0, 1, 2, 0]])


def one_cell(w, h, x, y, tone, much):
    """A layer without anything but in one cell; all is chosen then."""
    return [page(w, h), LAYER, box(x, y, 1, 1), fill(tone, much), WHOLE]


class Softening(Changing):
    def test_at_a_corner_at_an_edge_and_inside(self):
        # 36 of the corner: by 4, by 6 and by 9 where it is around.
        self.check([*one_cell(3, 3, 0, 0, 50, 36), SOFT], 3,
                   [(50, 9), (50, 6), (0, 0),
                    (50, 6), (50, 4), (0, 0),
                    (0, 0), (0, 0), (0, 0)])
        self.check([*one_cell(3, 3, 1, 0, 50, 36), SOFT], 3,
                   [(50, 9), (50, 6), (50, 9),
                    (50, 6), (50, 4), (50, 6),
                    (0, 0), (0, 0), (0, 0)])
        self.check([*one_cell(3, 3, 1, 1, 50, 36), SOFT], 3,
                   [(50, 9), (50, 6), (50, 9),
                    (50, 6), (50, 4), (50, 6),
                    (50, 9), (50, 6), (50, 9)])

    def test_in_a_row_in_a_column_and_alone(self):
        self.check([*one_cell(3, 1, 0, 0, 50, 36), SOFT], 3, [(50, 18), (50, 12), (0, 0)])
        self.check([*one_cell(1, 3, 0, 2, 50, 36), SOFT], 1, [(0, 0), (50, 12), (50, 18)])
        self.check([LAYER, fill(50, 36), SOFT], 1, [(50, 36)])
        self.assertEqual(ask(LAYER, fill(50, 36), SOFT)[1:], [[1, 0, 1, 2, 0]] * 2)

    def test_a_row_end_is_not_around_the_next_row(self):
        # The last of row 0 is around four cells of rows 0 and 1 alone.
        self.check([*one_cell(4, 3, 3, 0, 50, 36), SOFT], 4,
                   [(0, 0), (0, 0), (50, 6), (50, 9),
                    (0, 0), (0, 0), (50, 4), (50, 6),
                    (0, 0), (0, 0), (0, 0), (0, 0)])

    def test_the_tone_by_how_much_there_is(self):
        # (10 * 100 + 40 * 200) / 300 = 30
        calls = [page(2, 1), LAYER, fill(10, 100), box(1, 0, 1, 1), fill(40, 200), WHOLE]
        self.check([*calls, SOFT], 2, [(30, 150)] * 2)

    def test_all_cells_at_once_by_what_they_were(self):
        calls = [page(3, 1), LAYER, fill(0, 60), box(1, 0, 1, 1), fill(90, 120), box(2, 0, 1, 1),
                 fill(30, 0), WHOLE]
        # 0: 180 / 2 and 10800 / 180; 1: 180 / 3 and 10800 / 180; 2: 120 / 2 and 10800 / 120
        self.check([*calls, SOFT], 3, [(60, 90), (60, 60), (90, 60)])

    def test_cells_that_are_not_chosen_count_but_stay(self):
        calls = [page(3, 1), LAYER, fill(20, 90), box(1, 0, 1, 1), fill(50, 90), SOFT]
        self.check(calls, 3, [(20, 90), (30, 90), (20, 90)])
        calls = [page(3, 1), LAYER, fill(20, 90), box(1, 0, 1, 1), fill(50, 90), TURN, SOFT]
        self.check(calls, 3, [(35, 90), (50, 90), (35, 90)])

    def test_without_anything_around_it_has_no_tone_either(self):
        calls = [page(2, 1), LAYER, fill(77, 0), SOFT]
        self.check(calls, 2, [(0, 0)] * 2)
        self.check([page(2, 1), LAYER, fill(77, 0), box(0, 0, 1, 1), SOFT], 2, [(0, 0), (77, 0)])
        self.assertEqual(last(*calls), [1, 0, 2, 3, 0])
        self.assertEqual(ask(page(2, 1), LAYER, SOFT)[1:], [[1, 0, 2, 1, 0]] * 2)

    def test_a_mean_that_comes_to_0_leaves_the_tone(self):
        self.check([*one_cell(3, 3, 0, 0, 50, 1), SOFT], 3,
                   [(50, 0), (50, 0), (0, 0), (50, 0), (50, 0), (0, 0), (0, 0), (0, 0), (0, 0)])

    def test_how_much_at_one_half_is_the_greater(self):
        # 7 / 2, 2 / 4 and 3 / 6
        self.check([*one_cell(2, 1, 0, 0, 50, 7), SOFT], 2, [(50, 4)] * 2)
        self.check([*one_cell(2, 2, 0, 0, 50, 2), SOFT], 2, [(50, 1)] * 4)
        self.check([*one_cell(2, 3, 0, 1, 50, 3), SOFT], 2, [(50, 1)] * 6)

    def test_how_much_beside_one_half(self):
        # 1 / 4 and 3 / 4; 4 / 9 and 5 / 9
        self.check([*one_cell(2, 2, 0, 0, 50, 1), SOFT], 2, [(50, 0)] * 4)
        self.check([*one_cell(2, 2, 0, 0, 50, 3), SOFT], 2, [(50, 1)] * 4)
        self.assertTrue(cell_is([*one_cell(3, 3, 0, 0, 50, 4), SOFT], 1, 1, 50, 0))
        self.assertTrue(cell_is([*one_cell(3, 3, 0, 0, 50, 5), SOFT], 1, 1, 50, 1))

    def two(self, tone, much, other_tone, other_much):
        return [page(2, 1), LAYER, fill(tone, much), box(1, 0, 1, 1), fill(other_tone, other_much), WHOLE, SOFT]

    def test_tone_at_one_half_is_the_greater(self):
        # (10 * 100 + 13 * 100) / 200 = 11.5; (10 * 30 + 12 * 10) / 40 = 10.5
        self.check(self.two(10, 100, 13, 100), 2, [(12, 100)] * 2)
        self.check(self.two(10, 30, 12, 10), 2, [(11, 20)] * 2)

    def test_tone_beside_one_half(self):
        # (10 * 101 + 11 * 100) / 201 = 10.498; (10 * 100 + 11 * 101) / 201 = 10.502
        self.check(self.two(10, 101, 11, 100), 2, [(10, 101)] * 2)
        self.check(self.two(10, 100, 11, 101), 2, [(11, 101)] * 2)

    def test_the_greatest(self):
        self.check([page(2, 2), LAYER, fill(255, 255), SOFT], 2, [(255, 255)] * 4)

    def test_the_layer_worked_on_alone(self):
        calls = [*one_cell(2, 1, 0, 0, 50, 36), LAYER, SOFT]
        self.check([*calls, pick(0)], 2, [(50, 36), (0, 0)])
        self.check([*calls, pick(1)], 2, [(0, 0), (0, 0)])

    def test_no_layer(self):
        self.assertEqual(ask(TURN, SOFT, TURN), [[0, 0, 0, 1, 0], [-2], [0, 0, 1, 2, 0]])

    def test_what_was_is_not_written_over(self):
        cells = [(10, 100), (40, 200)]
        self.assertEqual(softened(cells, [1, 0], 2, 1), [(30, 150), (40, 200)])
        self.assertEqual(cells, [(10, 100), (40, 200)])


class TheNearest(unittest.TestCase):
    def test_of_two_as_near_the_greater(self):
        for top, bottom, near in ((0, 3, 0), (1, 2, 1), (3, 2, 2), (1, 3, 0), (2, 3, 1), (9, 3, 3),
                                  (32512, 65025, 0), (32513, 65025, 1), (5, 10, 1), (4, 10, 0)):
            self.assertEqual(nearest(top, bottom), near, (top, bottom))


if __name__ == "__main__":
    unittest.main()
