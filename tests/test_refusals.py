"""-2 and -3: items and measures that are not there, and which refusal is told first."""

import unittest

from lines import HIGHEST, LOWEST, WORKED, asked, beaten, beaters, gain, item, list_text

FAR = (LOWEST, LOWEST + 1, -2 ** 64, -2 ** 63, -2 ** 32, -2 ** 31, -17, -16, -5, -4, -2, -1,
       2 ** 31, 2 ** 32, 2 ** 63, 2 ** 64, HIGHEST - 1, HIGHEST)


class NoSuchItem(unittest.TestCase):

    def check(self, text, wrong, width):
        calls = [beaters(wrong), beaten(wrong), item(wrong)]
        calls += [gain(wrong, m) for m in range(width)]
        with self.subTest(text=text, wrong=wrong):
            self.assertEqual(asked(text, calls), [[-2]] * len(calls))

    def test_below_0_and_from_how_many_there_are(self):
        for wrong in FAR + (5, 6, 15, 16):
            self.check(WORKED, wrong, 2)

    def test_for_each_count_of_items(self):
        for size in range(17):
            text = list_text([True, False], [[k, k] for k in range(size)])
            for wrong in FAR + (size, size + 1, 2 * size + 1, -size - 1):
                self.check(text, wrong, 2)
            for i in range(size):
                for told in asked(text, [beaters(i), beaten(i), item(i), gain(i, 0), gain(i, 1)]):
                    self.assertNotEqual(told, [-2])

    def test_while_the_list_has_no_item(self):
        for width in range(1, 5):
            for wrong in FAR + (0, 1, 16):
                self.check(list_text([True] * width, []), wrong, width)


class NoSuchMeasure(unittest.TestCase):

    def test_below_0_and_from_how_many_there_are(self):
        for width in range(1, 5):
            text = list_text([False] * width, [[0] * width, [1] * width])
            wrongs = FAR + (width, width + 1, 4, 5)
            for i in range(2):
                self.assertEqual(asked(text, [gain(i, m) for m in wrongs]), [[-3]] * len(wrongs))
            self.assertEqual(asked(text, [gain(0, m) for m in range(width)]), [[0]] * width)
            for told in asked(text, [gain(1, m) for m in range(width)]):
                self.assertGreater(told[0], 0)

    def test_there_is_no_such_item_either(self):
        for text in (WORKED, "measures a up ;"):
            for i in FAR + (5,):
                wrongs = FAR + (2, 3, 4)
                self.assertEqual(asked(text, [gain(i, m) for m in wrongs]), [[-2]] * len(wrongs))

    def test_an_items_number_is_not_taken_for_a_measures(self):
        self.assertEqual(asked(WORKED, [gain(4, 1), gain(1, 4), gain(2, 2), gain(5, 1)]),
                         [[0], [-3], [-3], [-2]])


if __name__ == "__main__":
    unittest.main()
