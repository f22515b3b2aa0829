"""item: an item's layer, name and values."""

import unittest

from lines import (SHOWN, WORKED, asked, bytes_in, counted, item, line, list_text, load,
                   many_lists, plain_layer)


class Item(unittest.TestCase):

    def check(self, text, i, layer, name, values):
        self.assertEqual(asked(text, [item(i)]), [[layer] + counted(bytes_in(name)) + values])

    def test_the_worked_list(self):
        self.assertEqual(asked(WORKED, [item(i) for i in range(5)]), [
            [1, 1, 97, 10, 5], [1, 1, 98, 8, 3], [1, 1, 99, 12, 9], [2, 1, 100, 12, 5],
            [1, 1, 101, 8, 3]])

    def test_names_of_1_to_16_bytes(self):
        whole = "aZ0zA9bY8cX7dW6e"
        for size in range(1, 17):
            text = f"measures m up ; item {whole[:size]} : 4 ; item other : 5 ;"
            self.check(text, 0, 2, whole[:size], [4])
            self.check(text, 1, 1, "other", [5])

    def test_values_above_at_and_below_0(self):
        for value in (0, 1, -1, 7, -7, 999, -999, 1000, -1000):
            self.check(f"measures m up ; item x : {value} ;", 0, 1, "x", [value])
        text = "measures a up, b down, c up, d down ; item y : 1000, -1000, -0, - 3 ;"
        self.check(text, 0, 1, "y", [1000, -1000, 0, -3])

    def test_1_to_4_measures(self):
        for width in range(1, 5):
            row = [5, -6, 0, 1000][:width]
            self.check(list_text([True] * width, [row]), 0, 1, "i0", row)

    def test_each_layer_of_a_chain_of_16(self):
        rising = [[k] for k in range(16)]
        for i in range(16):
            self.check(list_text([False], rising), i, i + 1, f"i{i}", [i])
            self.check(list_text([True], rising), i, 16 - i, f"i{i}", [i])

    def test_several_items_of_one_layer(self):
        rows = [[1, 1], [9, 0], [3, 3], [2, 2], [0, 0], [0, 9]]
        for i, layer in enumerate([3, 1, 1, 2, 4, 1]):
            self.check(list_text([True, True], rows), i, layer, f"i{i}", rows[i])

    def test_many_lists(self):
        for ups, rows in many_lists():
            told = asked(list_text(ups, rows), [item(i) for i in range(len(rows))])
            for i, row in enumerate(rows):
                self.assertEqual(
                    told[i], [plain_layer(ups, rows, i)] + counted(bytes_in(f"i{i}")) + row)

    def test_asking_twice_changes_nothing(self):
        told = line(load(WORKED), SHOWN, item(3), item(3), SHOWN)
        self.assertEqual(told[2], told[3])
        self.assertEqual(told[1], told[4])


if __name__ == "__main__":
    unittest.main()
