"""beats: who beats whom, and promise 2."""

import itertools
import unittest

from lines import (HIGHEST, LOWEST, WORKED, asked, beats, line, list_text, load, many_lists,
                   plainly_beats, stepped)


def one_against_other(ups, row, other):
    return line(load(list_text(ups, [row, other])), beats(0, 1))[1]


def plain_answer(ups, row, other):
    if plainly_beats(ups, row, other):
        return [1]
    if plainly_beats(ups, other, row):
        return [2]
    return [3] if row == other else [0]


def matrix(text, size):
    """What beats tells of every two items."""
    pairs = list(itertools.product(range(size), repeat=2))
    return dict(zip(pairs, asked(text, [beats(i, j) for i, j in pairs])))


class Beats(unittest.TestCase):

    def test_the_worked_list(self):
        self.assertEqual(
            line(load(WORKED), beats(0, 3), beats(3, 0), beats(1, 4), beats(0, 1))[1:],
            [[1], [2], [3], [0]])

    def test_one_measure_up_and_down(self):
        for low, high in ((0, 1), (-1, 0), (-1000, 1000), (-5, -4), (999, 1000)):
            self.assertEqual(one_against_other([True], [high], [low]), [1])
            self.assertEqual(one_against_other([True], [low], [high]), [2])
            self.assertEqual(one_against_other([False], [low], [high]), [1])
            self.assertEqual(one_against_other([False], [high], [low]), [2])
            self.assertEqual(one_against_other([True], [low], [low]), [3])
            self.assertEqual(one_against_other([False], [high], [high]), [3])

    def test_better_by_one_and_as_good_by_the_others(self):
        for width in range(1, 5):
            for at in range(width):
                for ups in itertools.product((True, False), repeat=width):
                    row = [5] * width
                    row[at] += 1 if ups[at] else -1
                    self.assertEqual(one_against_other(ups, row, [5] * width), [1])
                    self.assertEqual(one_against_other(ups, [5] * width, row), [2])

    def test_every_two_small_rows(self):
        rows = [list(row) for row in itertools.product((0, 1, 2), repeat=2)]
        for ups in itertools.product((True, False), repeat=2):
            for row in rows:
                for other in rows:
                    self.assertEqual(one_against_other(ups, row, other),
                                     plain_answer(ups, row, other))

    def test_minus_0_is_0(self):
        told = line(load("measures a up ; item x : -0 ; item y : 0 ;"), beats(0, 1))
        self.assertEqual(told[1], [3])

    def test_an_item_and_itself(self):
        calls = [beats(i, i) for i in range(5)]
        self.assertEqual(line(load(WORKED), *calls)[1:], [[3]] * 5)

    def test_no_such_item(self):
        for wrong in (-1, 5, 6, -5, -2, 2 ** 31, 2 ** 32, 2 ** 63, HIGHEST, LOWEST, HIGHEST - 1,
                      LOWEST + 1):
            with self.subTest(wrong=wrong):
                told = line(load(WORKED), beats(wrong, 0), beats(0, wrong), beats(wrong, wrong),
                            beats(wrong, 4), beats(4, wrong), beats(4, 4), beats(0, 3))
                self.assertEqual(told[1:], [[-2]] * 5 + [[3], [1]])

    def test_no_item_at_all(self):
        told = line(load("measures a up ;"), beats(0, 0), beats(-1, 0), beats(0, 1))
        self.assertEqual(told[1:], [[-2]] * 3)

    def test_the_last_item_of_16(self):
        text = list_text([True], [[k] for k in range(16)])
        self.assertEqual(line(load(text), beats(15, 0), beats(16, 0), beats(0, 16))[1:],
                         [[1], [-2], [-2]])


class Promise2(unittest.TestCase):

    def check(self, told, size):
        beaten_by = {pair for pair, answer in told.items() if answer == [1]}
        for i, j in beaten_by:
            self.assertNotEqual(i, j)
            self.assertNotIn((j, i), beaten_by)
            self.assertEqual(told[j, i], [2])
            for k in range(size):
                if (j, k) in beaten_by:
                    self.assertIn((i, k), beaten_by)

    def test_over_many_lists(self):
        for ups, rows in many_lists():
            told = matrix(list_text(ups, rows), len(rows))
            self.check(told, len(rows))
            for (i, j), answer in told.items():
                self.assertEqual(answer, plain_answer(ups, rows[i], rows[j]))

    def test_over_lists_with_many_beaten_items(self):
        steps = stepped(11)
        for width in (2, 3):
            for _ in range(20):
                ups = [next(steps) % 2 == 0 for _ in range(width)]
                rows = [[next(steps) % 3 for _ in range(width)] for _ in range(7)]
                self.check(matrix(list_text(ups, rows), 7), 7)


if __name__ == "__main__":
    unittest.main()
