"""picture, and press, which makes one of the lowest layer and the ground."""

import fractions
import math
import unittest

from tests.lines import (CHOSEN, LAYER, LIST, PICTURE, PRESS, RAISE, REDO, STEPS, TURN, UNDO, ask, asked, box, dots,
                         drawn_over, fill, last, page, pick, set_it)

SIDES = (0, 1, 2, 64, 127, 128, 254, 255)


def near(fraction):
    return math.floor(fraction + fractions.Fraction(1, 2))


def seen_by_the_words(below, way, tone, much, of_it):
    """What the document says of one cell under one layer, in fractions."""
    by_way = (tone, near(fractions.Fraction(below * tone, 255)),
              255 - near(fractions.Fraction((255 - below) * (255 - tone), 255)), abs(below - tone))
    share = fractions.Fraction(much * of_it, 65025)
    return near((1 - share) * below + share * by_way[way])


class ThePicture(unittest.TestCase):
    def check(self, ground, way, tone, much, of_it, expected):
        self.assertEqual(last(*drawn_over(ground, way, tone, much, of_it), PICTURE), [expected])

    def test_of_the_ground_alone(self):
        self.assertEqual(ask(page(3, 2, 77), PICTURE), [[0, 0, 6, 0, 0], [77] * 6])

    def test_cell_by_cell_in_order(self):
        calls = [page(3, 2, 9), LAYER, box(1, 0, 1, 1), fill(50, 255), box(0, 1, 1, 1), fill(60, 255)]
        self.assertEqual(last(*calls, PICTURE), [9, 50, 9, 60, 9, 9])

    def test_each_way(self):
        self.check(100, 0, 200, 255, 255, 200)
        self.check(100, 1, 200, 255, 255, 78)   # 78.4
        self.check(100, 2, 200, 255, 255, 222)  # 255 less 33.4
        self.check(100, 3, 200, 255, 255, 100)
        self.check(200, 3, 70, 255, 255, 130)

    def test_each_way_just_beside_one_half(self):
        # 127 / 255 and 128 / 255
        self.check(127, 1, 1, 255, 255, 0)
        self.check(128, 1, 1, 255, 255, 1)
        self.check(128, 2, 254, 255, 255, 255)
        self.check(127, 2, 254, 255, 255, 254)

    def test_how_much_just_beside_one_half(self):
        # 128 * 254 = 32512 and 13 * 41 * 61 = 32513, of 65025; up from 0, and down from 1 and 13
        self.check(0, 0, 1, 128, 254, 0)
        self.check(0, 0, 13, 41, 61, 1)
        self.check(1, 0, 0, 128, 254, 1)
        self.check(13, 0, 0, 41, 61, 12)
        self.check(1, 3, 1, 254, 128, 1)
        self.check(13, 3, 13, 61, 41, 12)

    def test_how_much_of_the_layer_and_of_the_cell(self):
        self.check(50, 0, 200, 64, 128, 69)    # 50 and 18.9
        self.check(50, 0, 200, 128, 64, 69)
        self.check(100, 1, 200, 100, 50, 98)   # 100 less 1.69
        self.check(100, 2, 200, 100, 50, 109)  # 100 and 9.38
        self.check(100, 3, 140, 128, 255, 70)  # 100 less 30.1
        self.check(50, 0, 200, 0, 255, 50)
        self.check(50, 0, 200, 255, 0, 50)

    def test_by_the_words_in_fractions(self):
        for below in SIDES:
            for tone in SIDES:
                for way in range(4):
                    line = [page(1, 1, below), LAYER, fill(tone, 255)]
                    shares = [(255, 255), (254, 255), (128, 254), (41, 61), (1, 1), (0, 255), (127, 129)]
                    for much, of_it in shares:
                        line += [fill(tone, much), set_it(way, of_it, 1), PICTURE]
                    expected = [[seen_by_the_words(below, way, tone, much, of_it)] for much, of_it in shares]
                    self.assertEqual(ask(*line)[5::3], expected, (below, tone, way))

    def test_of_what_is_not_shown_nothing(self):
        for way in range(4):
            calls = [*drawn_over(50, way, 200, 255, 255), set_it(way, 255, 0)]
            self.assertEqual(last(*calls, PICTURE), [50])

    def test_layer_by_layer_from_the_lowest_on(self):
        # 10 -> 200 -> 200 * 100 / 255 = 78.4; the other way round 10 * 100 / 255 = 3.9, 206
        calls = [*drawn_over(10, 3, 210, 255, 255), LAYER, fill(100, 255), set_it(1, 255, 1)]
        self.assertEqual(last(*calls, PICTURE), [78])
        self.assertEqual(last(*calls, pick(0), RAISE, PICTURE), [206])

    def test_several_layers_some_not_shown(self):
        # 100 -> 78.4, 78 -> m 113, 25600 of 65025: 91.8, 92 -> 8 -> 10 * 100 / 255 of the way to 255: 104.9
        calls = [page(2, 1, 100), box(1, 0, 1, 1), LAYER, fill(200, 255), set_it(1, 255, 1),
                 LAYER, fill(50, 128), set_it(2, 200, 1), LAYER, fill(100, 255), set_it(3, 255, 1),
                 LAYER, fill(255, 100)]
        self.assertEqual(last(*calls, PICTURE), [100, 105])
        self.assertEqual(last(*calls, set_it(0, 255, 0), PICTURE), [100, 8])
        self.assertEqual(last(*calls, pick(2), set_it(3, 255, 0), PICTURE), [100, 156])
        self.assertEqual(last(*calls, set_it(0, 255, 0), pick(2), set_it(3, 255, 0), PICTURE), [100, 92])
        self.assertEqual(last(*calls, set_it(0, 255, 0), pick(2), set_it(3, 255, 0), pick(1), set_it(2, 200, 0),
                              PICTURE), [100, 78])

    def test_the_nearest_behind_each_layer(self):
        # 3 -> 1.49 -> 1 -> 0.498 -> 0, where 3 * 0.248 unrounded is 0.74
        self.assertEqual(last(*drawn_over(3, 0, 0, 128, 255), LAYER, fill(0, 128), PICTURE), [0])

    def test_goes_by_neither_what_is_chosen_nor_what_is_worked_on(self):
        calls = [page(2, 1, 9), LAYER, fill(50, 255), LAYER]
        self.assertEqual(ask(*calls, PICTURE, TURN, PICTURE, pick(0), PICTURE)[4::2], [[50, 50]] * 3)


class Pressing(unittest.TestCase):
    def test_the_ground_is_what_the_picture_had_of_both(self):
        for way, tone in ((0, 200), (1, 78), (2, 222), (3, 100)):
            rows = asked(drawn_over(100, way, 200, 255, 255), PRESS, PICTURE, LIST)
            # Setting a new layer to way 0 with all of it is no step.
            self.assertEqual(rows, [[0, 0, 1, 3 if way == 0 else 4, 0], [tone], [0]])

    def test_with_less_of_the_layer_and_of_the_cell(self):
        for way, tone in ((0, 108), (1, 98), (2, 109), (3, 100)):
            self.assertEqual(asked(drawn_over(100, way, 200, 100, 50), PRESS, PICTURE), [[0, 0, 1, 4, 0], [tone]])

    def test_one_that_is_not_shown_leaves_the_ground(self):
        for way in range(4):
            calls = [*drawn_over(100, way, 200, 255, 255), set_it(way, 255, 0), PRESS]
            self.assertEqual(asked(calls, PICTURE, LIST), [[100], [0]])
            # The layer is gone all the same, and that is a step.
            self.assertEqual(last(*calls, STEPS)[1:], [2, *last(*calls[:-1], STEPS)[1:]])

    def test_chosen_or_not(self):
        calls = [page(3, 1, 9), LAYER, fill(50, 255), box(0, 0, 1, 1), PRESS]
        self.assertEqual(asked(calls, PICTURE, CHOSEN), [[50] * 3, [1, 0, 0]])
        calls = [page(3, 1, 9), LAYER, fill(50, 255), TURN, PRESS]
        self.assertEqual(asked(calls, PICTURE, CHOSEN), [[50] * 3, [0] * 3])

    def test_of_both_alone(self):
        # What is above isn't pressed with it: without it the ground is the lowest layer's.
        calls = [page(2, 1, 9), LAYER, fill(50, 255), LAYER, fill(200, 128), PRESS]
        self.assertEqual(asked(calls, PICTURE, LIST, set_it(0, 255, 0), PICTURE),
                         [[125] * 2, [1, 2, 0, 255, 1, 2], [1, 0, 2, 6, 0], [50] * 2])

    def test_the_lowest_whichever_is_worked_on(self):
        calls = [page(1, 1, 9), LAYER, fill(1, 255), LAYER, fill(2, 255), LAYER, fill(3, 255)]
        for place, left in ((0, 0), (1, 0), (2, 1)):
            rows = asked([*calls, pick(place)], PRESS, LIST, dots(0), dots(1), dots(2))
            self.assertEqual(rows[0][:2], [2, left])
            self.assertEqual(rows[1:], [[2, 2, 0, 255, 1, 1, 3, 0, 255, 1, 1], [2, 255], [3, 255], [-2]])

    def test_the_same_is_worked_on_still_unless_it_was_the_lowest(self):
        calls = [page(1, 1, 9), LAYER, fill(1, 255), LAYER, fill(2, 255), LAYER, fill(3, 255)]
        for place, worked in ((0, 0), (1, 0), (2, 1)):
            rows = asked([*calls, pick(place), PRESS], fill(7, 7), dots(0), dots(1))
            expected = [[2, 255], [3, 255]]
            expected[worked] = [7, 7]
            self.assertEqual(rows[1:], expected)

    def test_all_of_them_and_one_more(self):
        calls = [page(1, 1, 9), LAYER, fill(1, 255), LAYER, fill(2, 255)]
        self.assertEqual(asked(calls, PRESS, PICTURE, PRESS, PICTURE, PRESS, PICTURE),
                         [[1, 0, 1, 5, 0], [2], [0, 0, 1, 6, 0], [2], [-2], [2]])

    def test_nothing_else_is_seen(self):
        for way in range(4):
            for shown in (0, 1):
                calls = [page(3, 2, 100), LAYER, fill(200, 180), set_it(way, 200, shown), box(1, 0, 2, 2),
                         LAYER, fill(40, 90), set_it(3 - way, 222, 1), LAYER, fill(77, 30), pick(1)]
                self.assertEqual(asked([*calls, PRESS], PICTURE), asked(calls, PICTURE))
                self.assertEqual(asked([*calls, PRESS, PRESS], PICTURE), asked(calls, PICTURE))
                self.assertEqual(asked([*calls, PRESS, PRESS, PRESS], PICTURE), asked(calls, PICTURE))

    def test_the_page_has_its_columns_and_rows_still(self):
        self.assertEqual(last(page(4, 2), LAYER, PRESS, box(3, 0, 1, 2), CHOSEN), [0, 0, 0, 1, 0, 0, 0, 1])
        self.assertEqual(last(page(2, 4), LAYER, PRESS, box(1, 3, 1, 1), CHOSEN), [0] * 7 + [1])

    def test_undone_and_done_again(self):
        calls = [page(2, 1, 9), LAYER, fill(50, 255), LAYER, fill(200, 128), PRESS]
        self.assertEqual(asked(calls, UNDO, LIST, dots(0), PRESS, UNDO, REDO, LIST, dots(0)),
                         [[2, 1, 2, 4, 1], [2, 1, 0, 255, 1, 2, 2, 0, 255, 1, 2], [50, 255] * 2, [1, 0, 2, 5, 0],
                          [2, 1, 2, 4, 1], [1, 0, 2, 5, 0], [1, 2, 0, 255, 1, 2], [200, 128] * 2])

    def test_no_layer(self):
        self.assertEqual(ask(page(2, 1, 9), TURN, PRESS, PICTURE, STEPS)[2:], [[-2], [9, 9], [1, 3, 0]])


if __name__ == "__main__":
    unittest.main()
