"""layeredpage.documents.answers: how calls are handed in and answers given back."""

import builtins
import contextlib
import io
import unittest
from unittest import mock

from layeredpage.documents import answers
from tests.lines import (CHOSEN, COPY, CUT, DROP, GREATEST, LAYER, LIST, PICTURE, PRESS, RAISE, REDO, SOFT, STEPS,
                         TURN, UNDO, box, bright, dots, fill, like, page, paste, pick, set_it, shift, written)

ALL_TWELVE = (page(2, 2, 9, 30), LAYER, LAYER, pick(0), RAISE, set_it(1, 200, 1), box(0, 0, 1, 2, 0), fill(80, 90),
              bright(1, 5), TURN, SOFT, like(0, 0, 3, 1), DROP)

ALL_OTHERS = (page(3, 1, 9, 20), LAYER, box(0, 0, 2, 1), fill(80, 255), shift(1, 0), COPY, LAYER, paste(1, 0), CUT,
              pick(0), CUT, UNDO, REDO, UNDO, PRESS, UNDO, PICTURE, dots(0), CHOSEN, STEPS, LIST)
ALL_CALLS = ALL_TWELVE + ALL_OTHERS


class HowAnswersAreGivenBack(unittest.TestCase):
    def test_each_with_how_many_numbers_it_has(self):
        self.assertEqual(answers([8]), [5, 0, 0, 0, 1, 0])
        self.assertEqual(answers([0, 3, 2, 7, 50]), [5, 0, 0, 6, 0, 0])
        self.assertEqual(answers([2]), [1, -2])
        self.assertEqual(answers([2, 1, 2, 0, 0, 0, 0, 0]), [1, -2, 5, 1, 0, 1, 1, 0, 5, 0, 0, 1, 2, 0, 1, -1])

    def test_all_twelve_one_behind_another(self):
        self.assertEqual(answers(written(ALL_TWELVE)), [
            5, 0, 0, 4, 0, 0,   # page
            5, 1, 0, 4, 1, 0,   # layer: 5
            5, 2, 1, 4, 2, 0,   # layer: 10
            5, 2, 0, 4, 3, 0,   # pick: 11
            5, 2, 1, 4, 4, 0,   # raise_it: 12
            5, 2, 1, 4, 5, 0,   # set_it: 13
            5, 2, 1, 2, 6, 0,   # box: 16
            5, 2, 1, 2, 7, 0,   # fill: 19
            5, 2, 1, 2, 8, 0,   # bright: 22
            5, 2, 1, 2, 9, 0,   # turn: 27
            5, 2, 1, 2, 10, 0,  # soft: 30
            5, 2, 1, 4, 10, 0,  # like: 33, less 5
            5, 1, 0, 4, 10, 0,  # drop: 33, less 5
        ])

    def test_all_others_one_behind_another(self):
        self.assertEqual(answers(written(ALL_OTHERS)), [
            5, 0, 0, 3, 0, 0,   # page
            5, 1, 0, 3, 1, 0,   # layer: 4
            5, 1, 0, 2, 2, 0,   # box: 6
            5, 1, 0, 2, 3, 0,   # fill: 9
            5, 1, 0, 2, 4, 0,   # shift: 11, as the left cell alone has something else then
            5, 1, 0, 2, 4, 0,   # copy
            5, 2, 1, 2, 5, 0,   # layer: 15
            5, 2, 1, 2, 6, 0,   # paste: 17, as one of the two cells is without anything
            5, 2, 1, 2, 6, 0,   # cut: nothing is there
            5, 2, 0, 2, 7, 0,   # pick: 18
            5, 2, 0, 2, 8, 0,   # cut: 20
            5, 2, 0, 2, 7, 1,   # undo
            5, 2, 0, 2, 8, 0,   # redo
            5, 2, 0, 2, 7, 1,   # undo
            5, 1, 0, 2, 7, 0,   # press: 23, less 4
            5, 2, 0, 2, 6, 1,   # undo
            3, 9, 80, 80,
            6, 0, 0, 80, 255, 0, 0,
            3, 1, 1, 0,
            9, 6, 1, 2, 4, 2, 3, 2, 1, 5,
            11, 2, 1, 0, 255, 1, 1, 2, 0, 255, 1, 1,
        ])

    def test_a_refused_call_has_all_its_numbers_read(self):
        wrong = (page(0, 0, 0, 0), pick(GREATEST), set_it(9, 9, 9), box(9, 9, 9, 9, 9), like(9, 9, 9, 9), fill(9, 9),
                 bright(9, 9), SOFT, RAISE, DROP, TURN)
        self.assertEqual(answers(written(wrong)),
                         [1, -1, 1, -2, 1, -2, 1, -3, 1, -1, 1, -2, 1, -2, 1, -2, 1, -2, 1, -2, 5, 0, 0, 0, 1, 0])
        wrong = (shift(8, 8), CUT, paste(8, 8), PRESS, COPY, UNDO, REDO, dots(8), TURN)
        self.assertEqual(answers(written(wrong)),
                         [1, -2, 1, -2, 1, -2, 1, -2, 1, -2, 1, -4, 1, -4, 1, -2, 5, 0, 0, 0, 1, 0])

    def test_forty_calls(self):
        self.assertEqual(len(answers([8] * 40)), 240)
        self.assertEqual(len(answers(written([box(1, 1, 1, 1, 1)] * 40))), 240)

    def test_whole_numbers_in_a_list(self):
        given = answers(written(ALL_CALLS))
        self.assertIs(type(given), list)
        self.assertEqual({type(number) for number in given}, {int})


class WhatIsHandedIn(unittest.TestCase):
    def test_is_the_same_behind_it(self):
        calls = written(ALL_CALLS)
        answers(calls)
        self.assertEqual(calls, written(ALL_CALLS))

    def test_is_not_changed_for_a_while_either(self):
        class Unchanged(list):
            def refuse(self, *numbers):
                raise AssertionError("the list was changed")

            append = clear = extend = insert = pop = remove = reverse = sort = refuse
            __setitem__ = __delitem__ = __iadd__ = __imul__ = refuse

        self.assertEqual(answers(Unchanged(written(ALL_CALLS))), answers(written(ALL_CALLS)))

    def test_asked_twice_is_answered_alike(self):
        calls = written(ALL_CALLS)
        self.assertEqual(answers(calls), answers(calls))

    def test_nothing_is_kept_from_one_time_to_the_next(self):
        first = answers([8])
        answers(written(ALL_CALLS))
        self.assertEqual(answers([8]), first)

    def test_what_is_given_back_is_the_askers_own(self):
        given = answers(written(ALL_CALLS))
        kept = list(given)
        given.clear()
        self.assertEqual(answers(written(ALL_CALLS)), kept)


class NothingElse(unittest.TestCase):
    def test_prints_reads_and_imports_nothing(self):
        printed = io.StringIO()
        with contextlib.redirect_stdout(printed), contextlib.redirect_stderr(printed):
            with mock.patch.object(builtins, "__import__", side_effect=AssertionError("imports")):
                with mock.patch.object(builtins, "open", side_effect=AssertionError("reads")):
                    given = answers(written(ALL_CALLS))
        self.assertEqual(printed.getvalue(), "")
        self.assertEqual(given, answers(written(ALL_CALLS)))


if __name__ == "__main__":
    unittest.main()
