"""dots, chosen and list_of: what they answer, and that asking changes nothing."""

import unittest

from tests.lines import (ALL_SEEN, CHOSEN, CUT, DROP, GREATEST, LAYER, LIST, PICTURE, PRESS, RAISE, STEPS, TURN, UNDO,
                         ask, asked, box, bright, dots, fill, last, like, page, pick, set_it)


class TheDots(unittest.TestCase):
    def test_of_each_cell_its_tone_and_how_much(self):
        calls = [page(3, 2), LAYER, box(1, 0, 1, 1), fill(7, 8), box(0, 1, 2, 1), fill(9, 255)]
        self.assertEqual(last(*calls, dots(0)), [0, 0, 7, 8, 0, 0, 9, 255, 9, 255, 0, 0])

    def test_of_the_layer_at_that_place(self):
        calls = [LAYER, fill(1, 11), LAYER, fill(2, 12), LAYER, fill(3, 13)]
        self.assertEqual(asked(calls, dots(0), dots(1), dots(2)), [[1, 11], [2, 12], [3, 13]])
        self.assertEqual(asked([*calls, pick(0), RAISE], dots(0), dots(1), dots(2)), [[2, 12], [1, 11], [3, 13]])

    def test_whether_it_is_shown_or_not(self):
        self.assertEqual(last(LAYER, fill(5, 6), set_it(2, 0, 0), dots(0)), [5, 6])

    def test_at_the_last_place_and_beyond(self):
        for many in range(1, 6):
            calls = [LAYER] * many
            self.assertEqual(asked(calls, dots(many - 1), dots(many), dots(GREATEST)), [[0, 0], [-2], [-2]])
            self.assertEqual(asked(calls, pick(many - 1), pick(many), pick(GREATEST)),
                             [[many, many - 1, 1, many, 0], [-2], [-2]])

    def test_without_layers(self):
        self.assertEqual(ask(dots(0), dots(1), dots(GREATEST)), [[-2]] * 3)
        self.assertEqual(last(LAYER, DROP, dots(0)), [-2])

    def test_asking_does_not_pick(self):
        rows = ask(LAYER, LAYER, dots(0), fill(5, 6), dots(0), dots(1))
        self.assertEqual(rows[2:], [[0, 0], [2, 1, 1, 3, 0], [0, 0], [5, 6]])


class TheChosen(unittest.TestCase):
    def test_of_each_cell(self):
        self.assertEqual(last(page(3, 2), CHOSEN), [1] * 6)
        self.assertEqual(last(page(3, 2), TURN, CHOSEN), [0] * 6)
        self.assertEqual(last(page(3, 2), box(1, 0, 1, 2), CHOSEN), [0, 1, 0, 0, 1, 0])
        self.assertEqual(last(page(2, 3), box(0, 1, 1, 2), CHOSEN), [0, 0, 1, 0, 1, 0])

    def test_each_how(self):
        calls = [page(3, 1), box(0, 0, 2, 1)]
        for how, expected in ((0, [0, 1, 1]), (1, [1, 1, 1]), (2, [1, 0, 0]), (3, [0, 1, 0])):
            self.assertEqual(last(*calls, box(1, 0, 2, 1, how), CHOSEN), expected)

    def test_by_like(self):
        calls = [page(3, 1), box(1, 0, 1, 1), LAYER, fill(9, 255), like(0, 0, 8, 1), CHOSEN]
        self.assertEqual(last(*calls), [1, 1, 0])


class TheList(unittest.TestCase):
    def test_of_each_layer_the_lowest_first(self):
        calls = [page(3, 1), LAYER, fill(5, 6), set_it(1, 100, 0), box(0, 0, 1, 1), LAYER, fill(7, 8), LAYER,
                 set_it(3, 0, 1)]
        self.assertEqual(asked(calls, LIST), [[3, 1, 1, 100, 0, 3, 2, 0, 255, 1, 1, 3, 3, 0, 1, 0]])

    def test_in_the_order_of_the_places(self):
        self.assertEqual(last(LAYER, LAYER, pick(0), LAYER, LIST),
                         [3, 1, 0, 255, 1, 0, 3, 0, 255, 1, 0, 2, 0, 255, 1, 0])
        self.assertEqual(last(LAYER, LAYER, LAYER, pick(0), RAISE, LIST)[1::5], [2, 1, 3])
        self.assertEqual(last(LAYER, LAYER, LAYER, PRESS, LIST)[1::5], [2, 3])

    def test_cells_that_have_more_than_0(self):
        # A tone of which there's nothing doesn't count; a tone of 0 of which there's something does.
        self.assertEqual(last(page(2, 1), LAYER, fill(9, 0), LIST), [1, 1, 0, 255, 1, 0])
        self.assertEqual(last(page(2, 1), LAYER, bright(1, 9), LIST), [1, 1, 0, 255, 1, 0])
        self.assertEqual(last(page(2, 1), LAYER, fill(0, 1), LIST), [1, 1, 0, 255, 1, 2])
        self.assertEqual(last(page(2, 1), LAYER, fill(0, 1), box(0, 0, 1, 1), CUT, LIST), [1, 1, 0, 255, 1, 1])

    def test_without_layers(self):
        self.assertEqual(last(page(2, 1), LIST), [0])
        self.assertEqual(last(LAYER, DROP, LIST), [0])


class Asking(unittest.TestCase):
    def test_changes_nothing(self):
        calls = [page(3, 2, 40), LAYER, fill(10, 200), box(0, 0, 2, 1), LAYER, fill(90, 100), UNDO]
        first = asked(calls, *ALL_SEEN, STEPS)
        self.assertEqual(asked(calls, *ALL_SEEN, STEPS, *ALL_SEEN, STEPS), first * 2)

    def test_of_the_greatest_page(self):
        calls = [page(6, 6, 3), LAYER, fill(255, 255)]
        self.assertEqual(asked(calls, PICTURE, dots(0), CHOSEN, LIST),
                         [[255] * 36, [255] * 72, [1] * 36, [1, 1, 0, 255, 1, 36]])


if __name__ == "__main__":
    unittest.main()
