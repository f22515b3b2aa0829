"""gain: by how much an item would have to be better by one measure, and promise 5."""

import itertools
import unittest

from lines import (WORKED, asked, gain, list_text, lists_of, many_lists, plain_gain, stepped,
                   unbeaten_with)


def told_gains(ups, rows):
    """The gain of each item by each measure."""
    pairs = list(itertools.product(range(len(rows)), range(len(ups))))
    told = asked(list_text(ups, rows), [gain(i, m) for i, m in pairs])
    for answer in told:
        if len(answer) != 1 or answer[0] < 0:
            raise AssertionError(f"no gain told: {answer}")
    return {pair: answer[0] for pair, answer in zip(pairs, told)}


class Gain(unittest.TestCase):

    def check(self, ups, rows, i, m, much):
        self.assertEqual(asked(list_text(ups, rows), [gain(i, m)]), [[much]])

    def test_the_worked_list(self):
        calls = [gain(3, 0), gain(3, 1), gain(0, 1)]
        self.assertEqual(asked(WORKED, calls), [[2], [4], [0]])
        for i in (0, 1, 2, 4):
            self.assertEqual(asked(WORKED, [gain(i, 0), gain(i, 1)]), [[0], [0]])

    def test_an_unbeaten_item(self):
        for width in range(1, 5):
            for m in range(width):
                self.check([True] * width, [[-1000] * width], 0, m, 0)
                self.check([True] * width, [[4] * width] * 16, 9, m, 0)
                self.check([False] * width, [[4] * width, [3] * width], 1, m, 0)

    def test_a_measure_by_which_it_could_never_be_too_bad(self):
        # Best by the other measure, so unbeaten whatever its value by this one is.
        for value in (-1000, 0, 1000):
            for up in (True, False):
                self.check([True, up], [[5, value], [4, 0], [4, 1000], [4, -1000]], 0, 1, 0)

    def test_one_measure(self):
        for much in (1, 2, 7, 1000):
            self.check([True], [[0], [much]], 0, 0, much)
            self.check([True], [[0], [much]], 1, 0, 0)
            self.check([False], [[0], [-much]], 0, 0, much)
            self.check([False], [[0], [-much]], 1, 0, 0)
        self.check([True], [[3], [9], [5], [9]], 0, 0, 6)
        self.check([False], [[3], [-9], [2], [-9]], 0, 0, 12)

    def test_the_difference_where_all_else_is_the_same(self):
        self.check([True, True], [[1, 5], [4, 5]], 0, 0, 3)
        self.check([False, True], [[4, 5], [1, 5]], 0, 0, 3)
        self.check([True, False, True, False], [[1, 2, 3, 4], [1, 2, 9, 4]], 0, 2, 6)
        self.check([True, False, True, False], [[1, 2, 3, 4], [1, 2, 3, -4]], 0, 3, 8)

    def test_one_more_where_it_is_worse_by_another_measure_too(self):
        self.check([True, True], [[1, 4], [4, 5]], 0, 0, 4)
        self.check([True, True], [[1, 4], [4, 5]], 0, 1, 2)
        self.check([False, True], [[4, 4], [1, 5]], 0, 0, 4)
        self.check([True, False], [[1, 6], [4, 5]], 0, 0, 4)
        self.check([True, False], [[1, 6], [4, 5]], 0, 1, 2)
        for other in range(1, 4):
            row = [0, 0, 0, 0]
            row[other] = 1
            self.check([True] * 4, [[0] * 4, [3] + row[1:]], 0, 0, 4)

    def test_one_by_a_measure_by_which_they_are_level(self):
        self.check([True, True], [[5, 4], [5, 9]], 0, 0, 1)
        self.check([False, True], [[5, 4], [5, 9]], 0, 0, 1)
        self.check([True, False], [[5, 9], [5, 4]], 0, 1, 5)

    def test_several_beaters_that_ask_different_gains(self):
        rows = [[0, 0], [3, 1], [5, 0], [1, 9], [0, 4]]
        for order in itertools.permutations(rows):
            self.check([True, True], order, order.index([0, 0]), 0, 5)
            self.check([True, True], order, order.index([0, 0]), 1, 10)
        # The same difference twice: the beater that has to be passed decides.
        for order in itertools.permutations([[0, 0], [3, 0], [3, 1]]):
            self.check([True, True], order, order.index([0, 0]), 0, 4)

    def test_a_beater_that_is_no_reason_may_be_passed_on_the_way(self):
        self.check([True], [[0], [1], [2], [3]], 0, 0, 3)
        self.check([True, True], [[0, 0], [2, 2], [4, 3], [3, 4]], 0, 0, 5)

    def test_what_does_not_beat_it_asks_nothing(self):
        self.check([True, True], [[0, 5], [1000, 4], [2, 5], [0, 5]], 0, 0, 2)

    def test_a_value_beyond_1000_and_beyond_minus_1000(self):
        self.check([True, True], [[1000, 0], [1000, 1]], 0, 0, 1)
        self.check([False, True], [[-1000, 0], [-1000, 1]], 0, 0, 1)
        self.check([True, False], [[-1000, 1], [1000, 0]], 0, 0, 2001)
        self.check([False, True], [[1000, 0], [-1000, 1]], 0, 0, 2001)
        self.check([True, True], [[-1000, 0], [1000, 0]], 0, 0, 2000)
        self.check([False], [[1000], [-1000]], 0, 0, 2000)
        self.check([True, True], [[999, 0], [1000, 1]], 0, 0, 2)

    def test_every_list_of_three_small_items(self):
        rows = list(itertools.product((0, 1, 2), repeat=2))
        for ups in itertools.product((True, False), repeat=2):
            for others in itertools.combinations_with_replacement(rows, 2):
                three = [(1, 1), *others]
                for (i, m), much in told_gains(ups, three).items():
                    self.assertEqual(much, plain_gain(ups, three, i, m))


class Promise5(unittest.TestCase):

    def check(self, ups, rows):
        for (i, m), much in told_gains(ups, rows).items():
            self.assertTrue(unbeaten_with(ups, rows, i, m, much))
            for less in range(much):
                self.assertFalse(unbeaten_with(ups, rows, i, m, less))

    def test_over_lists_with_few_different_values(self):
        for seed in range(3):
            for ups, rows in lists_of((2, 3, 5, 21), seed):
                self.check(ups, rows)

    def test_over_many_lists(self):
        for ups, rows in many_lists():
            self.check(ups, rows)

    def test_over_lists_at_the_edges_of_the_values(self):
        steps = stepped(5)
        edges = (-1000, -999, 0, 999, 1000)
        for width in range(1, 5):
            for _ in range(6):
                ups = [next(steps) % 2 == 0 for _ in range(width)]
                rows = [[edges[next(steps) % 5] for _ in range(width)] for _ in range(6)]
                self.check(ups, rows)


if __name__ == "__main__":
    unittest.main()
