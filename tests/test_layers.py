"""best and layers, and promises 1 and 3."""

import itertools
import unittest

from lines import (BEST, LAYERS, WORKED, counted_layers, line, list_text, load, many_lists,
                   plain_layers, plainly_beats)


def best_and_layers(text):
    return line(load(text), BEST, LAYERS)[1:]


def told_layers(flat):
    """The layers out of what layers answers; every number has to be used up."""
    layers = []
    at = 1
    for _ in range(flat[0]):
        past = at + 1 + flat[at]
        layers.append(flat[at + 1:past])
        at = past
    if at != len(flat):
        raise AssertionError(f"numbers left over: {flat}")
    return layers


class BestAndLayers(unittest.TestCase):

    def check(self, ups, rows, layers):
        first = layers[0] if layers else []
        self.assertEqual(best_and_layers(list_text(ups, rows)),
                         [[len(first)] + first, counted_layers(layers)])

    def test_the_worked_list(self):
        self.assertEqual(best_and_layers(WORKED), [[4, 0, 1, 2, 4], [2, 4, 0, 1, 2, 4, 1, 3]])

    def test_no_item(self):
        for width in range(1, 5):
            self.assertEqual(best_and_layers(list_text([True] * width, [])), [[0], [0]])

    def test_one_item(self):
        for width in range(1, 5):
            self.check([False] * width, [[-3] * width], [[0]])

    def test_items_that_are_the_same_by_all_measures(self):
        for size in range(2, 17):
            self.check([True, False], [[4, 4]] * size, [list(range(size))])
        self.check([True], [[1], [2], [1], [2], [0]], [[1, 3], [0, 2], [4]])

    def test_a_chain_of_16(self):
        rising = [[k] for k in range(16)]
        self.check([True], rising, [[k] for k in range(15, -1, -1)])
        self.check([False], rising, [[k] for k in range(16)])
        mixed = [[(7 * k) % 16, -((7 * k) % 16)] for k in range(16)]
        chain = sorted(range(16), key=lambda k: -mixed[k][0])
        self.check([True, False], mixed, [[k] for k in chain])

    def test_16_items_of_one_layer(self):
        self.check([True, True], [[k, -k] for k in range(16)], [list(range(16))])
        self.check([False, True], [[k, k] for k in range(16)], [list(range(16))])

    def test_an_item_stands_behind_the_last_layer_that_beats_it(self):
        self.check([True, True], [[1, 1], [9, 0], [3, 3], [2, 2], [0, 0], [0, 9]],
                   [[1, 2, 5], [3], [0], [4]])

    def test_every_list_of_three_small_items(self):
        rows = list(itertools.product((0, 1, 2), repeat=2))
        for ups in ((True, True), (True, False)):
            for three in itertools.product(rows, repeat=3):
                self.check(ups, three, plain_layers(ups, three))

    def test_many_lists(self):
        for ups, rows in many_lists():
            self.check(ups, rows, plain_layers(ups, rows))


class Promises(unittest.TestCase):

    def setUp(self):
        self.lists = list(many_lists())

    def test_1_the_unbeaten(self):
        for ups, rows in self.lists:
            told = best_and_layers(list_text(ups, rows))[0]
            best = told[1:]
            self.assertEqual(told[0], len(best))
            self.assertEqual(best, sorted(set(best)))
            for i, row in enumerate(rows):
                if i in best:
                    self.assertFalse(any(plainly_beats(ups, other, row) for other in rows))
                else:
                    self.assertTrue(any(plainly_beats(ups, rows[j], row) for j in best))

    def test_3_the_layers(self):
        for ups, rows in self.lists:
            best, flat = best_and_layers(list_text(ups, rows))
            layers = told_layers(flat)
            self.assertEqual(sorted(i for layer in layers for i in layer),
                             list(range(len(rows))))
            self.assertEqual(layers[0] if layers else [], best[1:])
            for at, layer in enumerate(layers):
                self.assertEqual(layer, sorted(layer))
                self.assertGreater(len(layer), 0)
                for i in layer:
                    self.check_place(ups, rows, layers, at, i)

    def check_place(self, ups, rows, layers, at, i):
        if at > 0:
            self.assertTrue(any(plainly_beats(ups, rows[j], rows[i]) for j in layers[at - 1]))
        for layer in layers[:at + 1]:
            for j in layer:
                self.assertFalse(plainly_beats(ups, rows[i], rows[j]))


if __name__ == "__main__":
    unittest.main()
