"""layer, drop, pick, raise_it and set_it."""

import unittest

from layeredpage import documents
from layeredpage.steps import Editor
from tests.lines import (DROP, GREATEST, LAYER, RAISE, TURN, apart, ask, box, cell_is, fill, kept, last, page,
                         pick, set_it)

FIVE = (LAYER,) * 5


def marked(count):
    """So many layers, filled with the tones 1, 2, 3 .. from the lowest on."""
    calls = [page(1, 1)]
    for tone in range(1, count + 1):
        calls += [LAYER, fill(tone, 9)]
    return calls


def order(test, calls, tones):
    """Checks that the layers' tones, from the lowest on, are these."""
    for place, tone in enumerate(tones):
        test.assertTrue(cell_is([*calls, pick(place)], 0, 0, tone, 9), (place, tone))
    test.assertEqual(last(*calls, pick(len(tones))), [-2])


class ANewLayer(unittest.TestCase):
    def test_is_worked_on(self):
        self.assertEqual(ask(LAYER, LAYER, LAYER),
                         [[1, 0, 1, 1, 0], [2, 1, 1, 2, 0], [3, 2, 1, 3, 0]])

    def test_comes_right_above_the_one_worked_on(self):
        rows = ask(*marked(3), pick(0), LAYER, fill(7, 9))
        self.assertEqual(rows[-2:], [[4, 1, 1, 8, 0], [4, 1, 1, 9, 0]])
        order(self, [*marked(3), pick(0), LAYER, fill(7, 9)], [1, 7, 2, 3])
        order(self, [*marked(3), pick(1), LAYER, fill(7, 9)], [1, 2, 7, 3])
        order(self, [*marked(3), LAYER, fill(7, 9)], [1, 2, 3, 7])

    def test_is_without_anything(self):
        calls = [page(2, 2), LAYER, fill(5, 6), LAYER]
        for x, y in ((0, 0), (1, 0), (0, 1), (1, 1)):
            self.assertTrue(cell_is(calls, x, y, 0, 0))
            self.assertFalse(cell_is(calls, x, y, 0, 1))
            self.assertFalse(cell_is(calls, x, y, 1, 0))

    def test_has_way_0_all_of_it_and_is_shown(self):
        self.assertEqual(kept(LAYER, set_it(0, 255, 1)), 1)
        for other in (set_it(1, 255, 1), set_it(0, 254, 1), set_it(0, 255, 0)):
            self.assertEqual(kept(LAYER, other), 2)

    def test_five_and_not_one_more(self):
        rows = ask(*FIVE, LAYER, pick(2), LAYER)
        self.assertEqual(rows[4:], [[5, 4, 1, 5, 0], [-5], [5, 2, 1, 6, 0], [-5]])
        self.assertEqual(last(*FIVE, LAYER, DROP, LAYER), [5, 4, 1, 7, 0])
        order(self, [*marked(5), LAYER], [1, 2, 3, 4, 5])


class TheNumbers(unittest.TestCase):
    def numbers(self, editor):
        return [one.number for one in editor.document.layers]

    def test_from_1_on_and_none_twice(self):
        editor = Editor()
        for expected in ([1], [1, 2], [1, 2, 3]):
            documents.layer(editor)
            self.assertEqual(self.numbers(editor), expected)
        documents.pick(editor, 0)
        documents.drop(editor)
        documents.layer(editor)
        self.assertEqual(self.numbers(editor), [2, 4, 3])
        for _ in range(3):
            documents.drop(editor)
        documents.layer(editor)
        self.assertEqual(self.numbers(editor), [5])

    def test_of_the_page(self):
        editor = Editor()
        documents.layer(editor)
        documents.page(editor, 2, 2, 0, 100)
        documents.layer(editor)
        self.assertEqual(self.numbers(editor), [1])

    def test_a_refused_one_takes_no_number(self):
        editor = Editor()
        for _ in range(7):
            documents.layer(editor)
        documents.drop(editor)
        documents.layer(editor)
        self.assertEqual(self.numbers(editor), [1, 2, 3, 4, 6])

    def test_layers_that_have_the_same_are_told_apart(self):
        calls = (LAYER, LAYER, pick(0), DROP, LAYER, pick(0))
        self.assertEqual(kept(*calls, RAISE), kept(*calls) + 1)


class Dropping(unittest.TestCase):
    def test_worked_on_is_the_one_in_its_place(self):
        self.assertEqual(last(*marked(3), pick(0), DROP), [2, 0, 1, 8, 0])
        self.assertEqual(last(*marked(3), pick(1), DROP), [2, 1, 1, 8, 0])
        order(self, [*marked(3), pick(0), DROP], [2, 3])
        order(self, [*marked(3), pick(1), DROP], [1, 3])

    def test_or_the_one_below(self):
        self.assertEqual(last(*marked(3), DROP), [2, 1, 1, 7, 0])
        order(self, [*marked(3), DROP], [1, 2])

    def test_the_last_one_there_is(self):
        self.assertEqual(ask(LAYER, DROP, DROP), [[1, 0, 1, 1, 0], [0, 0, 1, 2, 0], [-2]])
        self.assertEqual(last(LAYER, LAYER, DROP, DROP), [0, 0, 1, 4, 0])

    def test_refused_leaves_all_as_it_was(self):
        self.assertEqual(ask(TURN, DROP, TURN), [[0, 0, 0, 1, 0], [-2], [0, 0, 1, 2, 0]])


class Picking(unittest.TestCase):
    def test_the_place(self):
        self.assertEqual(ask(LAYER, LAYER, LAYER, pick(0), pick(2), pick(1))[3:],
                         [[3, 0, 1, 4, 0], [3, 2, 1, 5, 0], [3, 1, 1, 6, 0]])

    def test_the_one_worked_on_already_is_no_step(self):
        self.assertEqual(last(LAYER, pick(0)), [1, 0, 1, 1, 0])

    def test_no_layer_at_that_place(self):
        self.assertEqual(ask(pick(0), pick(1), pick(GREATEST)), [[-2]] * 3)
        self.assertEqual(ask(LAYER, LAYER, pick(2), pick(3), pick(GREATEST))[2:], [[-2]] * 3)
        self.assertEqual(ask(*FIVE, pick(4), pick(5))[5:], [[5, 4, 1, 5, 0], [-2]])

    def test_refused_leaves_all_as_it_was(self):
        self.assertEqual(ask(LAYER, LAYER, pick(0), pick(2), pick(0))[2:], [[2, 0, 1, 3, 0], [-2], [2, 0, 1, 3, 0]])


class Raising(unittest.TestCase):
    def test_changes_places_with_the_one_above(self):
        self.assertEqual(last(*marked(3), pick(0), RAISE), [3, 1, 1, 8, 0])
        order(self, [*marked(3), pick(0), RAISE], [2, 1, 3])
        order(self, [*marked(3), pick(1), RAISE], [1, 3, 2])
        order(self, [*marked(4), pick(0), RAISE, RAISE], [2, 3, 1, 4])

    def test_it_is_worked_on_still(self):
        self.assertTrue(cell_is([*marked(3), pick(0), RAISE], 0, 0, 1, 9))

    def test_layers_that_have_the_same_but_their_number_are_a_step(self):
        self.assertEqual(ask(LAYER, LAYER, pick(0), RAISE)[2:], [[2, 0, 1, 3, 0], [2, 1, 1, 4, 0]])

    def test_none_or_none_above(self):
        self.assertEqual(ask(RAISE, LAYER, RAISE, LAYER, RAISE, pick(0), RAISE, RAISE),
                         [[-2], [1, 0, 1, 1, 0], [-2], [2, 1, 1, 2, 0], [-2], [2, 0, 1, 3, 0],
                          [2, 1, 1, 4, 0], [-2]])

    def test_refused_leaves_all_as_it_was(self):
        order(self, [*marked(3), RAISE], [1, 2, 3])
        self.assertEqual(ask(*marked(2), RAISE, pick(1))[-2:], [[-2], [2, 1, 1, 4, 0]])


class Setting(unittest.TestCase):
    def test_each_of_the_three(self):
        for setting in (set_it(3, 255, 1), set_it(0, 0, 1), set_it(0, 255, 0), set_it(2, 100, 0)):
            self.assertEqual(ask(LAYER, setting, setting), [[1, 0, 1, 1, 0], [1, 0, 1, 2, 0], [1, 0, 1, 2, 0]])

    def test_only_the_layer_worked_on(self):
        calls = (LAYER, LAYER, LAYER, pick(1), set_it(2, 100, 0))
        self.assertEqual(kept(*calls), 5)
        self.assertEqual(ask(*calls, pick(0), set_it(0, 255, 1))[-2:], [[3, 0, 1, 6, 0], [3, 0, 1, 6, 0]])
        self.assertEqual(ask(*calls, pick(2), set_it(0, 255, 1))[-2:], [[3, 2, 1, 6, 0], [3, 2, 1, 6, 0]])
        self.assertEqual(ask(*calls, pick(1), set_it(2, 100, 0))[-2:], [[3, 1, 1, 5, 0], [3, 1, 1, 5, 0]])

    def test_goes_with_the_layer_and_keeps_its_cells(self):
        calls = [*marked(2), pick(0), set_it(1, 2, 0), RAISE]
        self.assertEqual(kept(*calls, set_it(1, 2, 0)), kept(*calls))
        order(self, calls, [2, 1])

    def test_edges(self):
        for setting in (set_it(3, 1, 1), set_it(1, 255, 0), set_it(0, 0, 0)):
            self.assertEqual(last(LAYER, setting), [1, 0, 1, 2, 0])
        for wrong in (4, GREATEST):
            self.assertEqual(last(LAYER, set_it(wrong, 0, 0)), [-3])
        for wrong in (256, GREATEST):
            self.assertEqual(last(LAYER, set_it(0, wrong, 0)), [-3])
        for wrong in (2, GREATEST):
            self.assertEqual(last(LAYER, set_it(0, 0, wrong)), [-3])

    def test_no_layer_is_told_first(self):
        self.assertEqual(ask(set_it(0, 0, 0), set_it(4, 256, 2)), [[-2], [-2]])

    def test_refused_leaves_all_as_it_was(self):
        for wrong in (set_it(4, 9, 0), set_it(1, 256, 0), set_it(1, 9, 2)):
            self.assertEqual(ask(LAYER, wrong, set_it(0, 255, 1)), [[1, 0, 1, 1, 0], [-3], [1, 0, 1, 1, 0]])


class WhatIsSeen(unittest.TestCase):
    """The picture, as far as like tells it: a first layer makes the left cell 0, so the tone of the
    right one, with the ground under it and the layers over that, is how far they are apart."""

    def over(self, ground, way, tone, much, of_it):
        return [page(2, 1, ground), box(0, 0, 1, 1), LAYER, fill(0, 255), box(1, 0, 1, 1),
                LAYER, fill(tone, much), set_it(way, of_it, 1)]

    def check(self, calls, tone):
        self.assertTrue(apart(calls, 0, 0, tone), tone)

    def test_the_ground(self):
        self.check([page(2, 1, 77), box(0, 0, 1, 1), LAYER, fill(0, 255)], 77)

    def test_way_0_is_the_tone(self):
        self.check(self.over(10, 0, 210, 255, 255), 210)
        self.check(self.over(210, 0, 10, 255, 255), 10)

    def test_way_1(self):
        # 100 * 200 / 255 = 78.4; 101 * 130 / 255 = 51.49; 101 * 131 / 255 = 51.89
        self.check(self.over(100, 1, 200, 255, 255), 78)
        self.check(self.over(101, 1, 130, 255, 255), 51)
        self.check(self.over(101, 1, 131, 255, 255), 52)

    def test_way_2(self):
        # 155 * 55 / 255 = 33.4; 154 * 125 / 255 = 75.49; 154 * 126 / 255 = 76.09; 10 * 13 / 255 = 0.51
        self.check(self.over(100, 2, 200, 255, 255), 255 - 33)
        self.check(self.over(101, 2, 130, 255, 255), 255 - 75)
        self.check(self.over(101, 2, 129, 255, 255), 255 - 76)
        self.check(self.over(245, 2, 242, 255, 255), 255 - 1)

    def test_way_3_is_the_difference(self):
        self.check(self.over(100, 3, 30, 255, 255), 70)
        self.check(self.over(30, 3, 100, 255, 255), 70)
        self.check(self.over(30, 3, 30, 255, 255), 0)

    def test_how_much_of_the_cell_and_of_the_layer(self):
        # k = 128 * 255: 200 * 128 / 255 = 100.39; 200 * 64 * 128 / 65025 = 25.2
        self.check(self.over(0, 0, 200, 128, 255), 100)
        self.check(self.over(0, 0, 200, 255, 128), 100)
        self.check(self.over(0, 0, 200, 64, 128), 25)
        # 50 + 150 * 64 * 128 / 65025 = 68.9
        self.check(self.over(50, 0, 200, 64, 128), 69)
        self.check(self.over(50, 0, 200, 0, 255), 50)
        self.check(self.over(50, 0, 200, 255, 0), 50)

    def test_way_and_how_much_together(self):
        # m = 40: (32385 * 100 + 32640 * 40) / 65025 = 69.88
        self.check(self.over(100, 3, 140, 128, 255), 70)

    def test_just_beside_one_half(self):
        # So near that with 65024 or 65026 in the place of 65025 one of them would come out otherwise.
        # 5 * 128 * 254 / 65025 = 2.49996; 9 * 179 * 222 / 65025 = 5.50007
        self.check(self.over(0, 0, 5, 128, 254), 2)
        self.check(self.over(0, 0, 9, 179, 222), 6)

    def test_what_is_not_shown_is_not_seen(self):
        self.check([*self.over(50, 0, 200, 255, 255), set_it(0, 255, 0)], 50)
        self.check([*self.over(50, 0, 200, 255, 255), set_it(0, 255, 0), set_it(0, 255, 1)], 200)

    def test_layer_by_layer_from_the_lowest_on(self):
        # 3 then 1: |10 - 210| = 200, 200 * 100 / 255 = 78.4; 1 then 3: 10 * 100 / 255 = 3.9, 206
        calls = [*self.over(10, 3, 210, 255, 255), LAYER, fill(100, 255), set_it(1, 255, 1)]
        self.check(calls, 78)
        self.check([*calls, pick(1), RAISE], 206)

    def test_rounded_behind_each_layer(self):
        # 3 -> 1.49 -> 1 -> 0.498 -> 0, where 3 * 0.248 unrounded is 0.74
        self.check([*self.over(3, 0, 0, 128, 255), LAYER, fill(0, 128)], 0)


if __name__ == "__main__":
    unittest.main()
