"""beaters and beaten: who beats an item and why, whom it beats, and promises 2 and 4."""

import itertools
import unittest

from lines import (WORKED, asked, beaten, beaters, counted, list_text, many_lists, plain_beaten,
                   plain_beaters, plain_reasons, plainly_beats)


def told_rows(flat, rows):
    """The rows of numbers in an answer, each behind its count; every number has to be used up."""
    told = []
    at = 0
    for _ in range(rows):
        past = at + 1 + flat[at]
        told.append(flat[at + 1:past])
        at = past
    if at != len(flat):
        raise AssertionError(f"numbers left over: {flat}")
    return told


def told_beaters(text, size):
    """For each item the pair of its beaters and its reasons."""
    return [told_rows(told, 2) for told in asked(text, [beaters(i) for i in range(size)])]


def told_beaten(text, size):
    return [told_rows(told, 1)[0] for told in asked(text, [beaten(i) for i in range(size)])]


class Beaters(unittest.TestCase):

    def check(self, ups, rows, i, beat, reasons):
        self.assertEqual(asked(list_text(ups, rows), [beaters(i)]),
                         [counted(beat) + counted(reasons)])

    def test_the_worked_list(self):
        self.assertEqual(asked(WORKED, [beaters(i) for i in range(5)]),
                         [[0, 0], [0, 0], [0, 0], [2, 0, 2, 2, 0, 2], [0, 0]])

    def test_an_item_that_none_beats(self):
        for width in range(1, 5):
            self.check([True] * width, [[0] * width], 0, [], [])
            self.check([False] * width, [[1] * width, [0] * width, [1] * width], 1, [], [])
        self.check([True, True], [[1, 2], [2, 1]], 0, [], [])

    def test_items_that_are_the_same_do_not_beat_one_another(self):
        for i in range(16):
            self.check([True, False], [[3, 3]] * 16, i, [], [])

    def test_a_chain_has_one_reason(self):
        rising = [[k] for k in range(16)]
        for i in range(15):
            self.check([True], rising, i, list(range(i + 1, 16)), [15])
            self.check([False], rising, i + 1, list(range(i + 1)), [0])
        self.check([True], rising, 15, [], [])
        self.check([False], rising, 0, [], [])

    def test_reasons_are_the_beaters_unbeaten_among_themselves(self):
        rows = [[1, 1], [2, 2], [5, 3], [0, 0], [3, 5], [0, 9], [4, 3]]
        self.check([True, True], rows, 3, [0, 1, 2, 4, 5, 6], [2, 4, 5])
        self.check([True, True], rows, 0, [1, 2, 4, 6], [2, 4])
        self.check([True, True], rows, 6, [2], [2])

    def test_an_unbeaten_item_that_does_not_beat_is_no_reason(self):
        self.check([True, True], [[9, 0], [1, 1], [0, 9], [2, 2], [0, 1]], 1, [3], [3])
        self.check([False, True], [[0, -9], [1, 1], [2, 1]], 2, [1], [1])

    def test_the_same_items_among_the_beaters_and_among_the_reasons(self):
        rows = [[2], [1], [3], [2], [3], [0]]
        self.check([True], rows, 5, [0, 1, 2, 3, 4], [2, 4])
        self.check([True], rows, 1, [0, 2, 3, 4], [2, 4])
        self.check([True], rows, 3, [2, 4], [2, 4])

    def test_both_lists_are_in_order(self):
        rows = [[0, 0], [9, 1], [5, 5], [1, 9], [8, 1], [5, 5], [1, 1]]
        self.check([True, True], rows, 0, [1, 2, 3, 4, 5, 6], [1, 2, 3, 5])
        self.check([True, True], rows[::-1], 6, [0, 1, 2, 3, 4, 5], [1, 3, 4, 5])

    def test_15_reasons(self):
        rows = [[k, 15 - k] for k in range(15)] + [[0, 0]]
        self.check([True, True], rows, 15, list(range(15)), list(range(15)))

    def test_many_lists(self):
        for ups, rows in many_lists():
            for i, told in enumerate(told_beaters(list_text(ups, rows), len(rows))):
                self.assertEqual(told, [plain_beaters(ups, rows, i), plain_reasons(ups, rows, i)])


class Beaten(unittest.TestCase):

    def check(self, ups, rows, i, numbers):
        self.assertEqual(asked(list_text(ups, rows), [beaten(i)]), [counted(numbers)])

    def test_the_worked_list(self):
        self.assertEqual(asked(WORKED, [beaten(i) for i in range(5)]),
                         [[1, 3], [0], [1, 3], [0], [0]])

    def test_none(self):
        for width in range(1, 5):
            self.check([True] * width, [[0] * width], 0, [])
            self.check([False] * width, [[5] * width] * 16, 7, [])
        self.check([True, True], [[1, 2], [2, 1], [2, 2]], 0, [])

    def test_several_in_order_over_several_layers(self):
        rising = [[k] for k in range(16)]
        for i in range(16):
            self.check([True], rising, i, list(range(i)))
            self.check([False], rising, i, list(range(i + 1, 16)))
        self.check([True, False], [[0, 5], [3, 0], [2, 1], [0, 6], [4, 4], [2, 1]], 1, [0, 2, 3, 5])

    def test_many_lists(self):
        for ups, rows in many_lists():
            for i, told in enumerate(told_beaten(list_text(ups, rows), len(rows))):
                self.assertEqual(told, plain_beaten(ups, rows, i))


class Promises(unittest.TestCase):

    def setUp(self):
        self.lists = list(many_lists())

    def test_2_over_beaten(self):
        for ups, rows in self.lists:
            told = told_beaten(list_text(ups, rows), len(rows))
            for i, below in enumerate(told):
                self.assertNotIn(i, below)
                for j in below:
                    self.assertNotIn(i, told[j])
                    self.assertLessEqual(set(told[j]), set(below))

    def test_an_item_is_told_by_beaten_just_where_the_other_is_told_by_beaters(self):
        for ups, rows in self.lists:
            text = list_text(ups, rows)
            above = [beat for beat, reasons in told_beaters(text, len(rows))]
            below = told_beaten(text, len(rows))
            for i, j in itertools.product(range(len(rows)), repeat=2):
                self.assertEqual(i in below[j], j in above[i])

    def test_4_each_that_beats_is_a_reason_or_beaten_by_one(self):
        for ups, rows in self.lists:
            for beat, reasons in told_beaters(list_text(ups, rows), len(rows)):
                self.assertLessEqual(set(reasons), set(beat))
                self.assertEqual(beat == [], reasons == [])
                for j in beat:
                    by_a_reason = any(plainly_beats(ups, rows[k], rows[j]) for k in reasons)
                    self.assertNotEqual(j in reasons, by_a_reason)


if __name__ == "__main__":
    unittest.main()
