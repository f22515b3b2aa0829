"""answers: a line of calls on one object, and what is handed in and given back."""

import unittest

from lines import (BEST, LAYERS, SHOWN, WORKED, apart, beats, bytes_in, line, list_text, load)
from unbeaten.lists import answers

ASKING = [SHOWN, beats(0, 0), BEST, LAYERS]


class WorkedLine(unittest.TestCase):

    CALLS = [
        (load(WORKED), [1, 2, 5]),
        (BEST, [4, 0, 1, 2, 4]),
        (LAYERS, [2, 4, 0, 1, 2, 4, 1, 3]),
        (beats(0, 3), [1]),
        (beats(3, 0), [2]),
        (beats(1, 4), [3]),
        (beats(0, 1), [0]),
    ]

    def test_call_by_call(self):
        for call, told in self.CALLS[1:]:
            self.assertEqual(line(load(WORKED), call), [[1, 2, 5], told])

    def test_as_one_list_of_calls(self):
        flat = [number for call, told in self.CALLS for number in call]
        self.assertEqual(answers(flat), [
            3, 1, 2, 5,
            5, 4, 0, 1, 2, 4,
            8, 2, 4, 0, 1, 2, 4, 1, 3,
            1, 1,
            1, 2,
            1, 3,
            1, 0,
        ])


class NoList(unittest.TestCase):

    def test_each_call_but_load_is_refused(self):
        for call in ASKING:
            self.assertEqual(answers(list(call)), [1, -1])
        self.assertEqual(line(*ASKING), [[-1]] * 4)

    def test_ahead_of_all_other_refusals(self):
        for i, j in ((-1, 0), (0, 99), (10 ** 18, -10 ** 18)):
            self.assertEqual(line(beats(i, j)), [[-1]])

    def test_behind_a_load_that_failed(self):
        self.assertEqual(line(load("measures"), *ASKING), [[0, 3, 8]] + [[-1]] * 4)

    def test_a_refusal_changes_nothing(self):
        told = line(*ASKING, load(WORKED), beats(0, 5), beats(-1, 0), BEST)
        self.assertEqual(told[4:], [[1, 2, 5], [-2], [-2], [4, 0, 1, 2, 4]])

    def test_a_list_without_items_is_a_list(self):
        form = bytes_in("measures a up ;\n")
        self.assertEqual(line(load("measures a up ;"), *ASKING),
                         [[1, 1, 0], [16] + form, [-2], [0], [0]])


class Lines(unittest.TestCase):

    def test_one_call(self):
        self.assertEqual(answers([0, 0]), [3, 0, 3, 0])
        self.assertEqual(answers(load("measures a up ;")), [3, 1, 1, 0])

    def test_60_calls(self):
        calls = [load(WORKED)] + [beats(k % 5, k // 5 % 5) for k in range(58)] + [LAYERS]
        told = line(*calls)
        self.assertEqual(len(told), 60)
        self.assertEqual(told[0], [1, 2, 5])
        for k in range(58):
            self.assertEqual(told[k + 1], line(load(WORKED), calls[k + 1])[1])
        self.assertEqual(told[59], [2, 4, 0, 1, 2, 4, 1, 3])

    def test_60_loads(self):
        self.assertEqual(line(*[load("measures a up ;")] * 60), [[1, 1, 0]] * 60)

    def test_a_later_load_takes_the_place_of_the_earlier_list(self):
        up = list_text([True], [[1], [2], [3]])
        down = list_text([False], [[1], [2]])
        self.assertEqual(
            line(load(up), BEST, load(down), BEST, LAYERS, beats(0, 1), beats(0, 2), load(""),
                 BEST, load(up), LAYERS),
            [[1, 1, 3], [1, 2], [1, 1, 2], [1, 0], [2, 1, 0, 1, 1], [1], [-2], [0, 3, 0],
             [1, 0], [1, 1, 3], [3, 1, 2, 1, 1, 1, 0]])

    def test_texts_of_8192_bytes(self):
        told = line(load(WORKED), load([0] * 8192), load([32] * 8192), BEST)
        self.assertEqual(told, [[1, 2, 5], [0, 1, 4096], [0, 1, 4096], [4, 0, 1, 2, 4]])

    def test_bytes_of_a_text_are_no_calls(self):
        self.assertEqual(line(load([0, 3, 4]), LAYERS), [[0, 2, 0], [-1]])


class HandedInAndBack(unittest.TestCase):

    CALLS = load(WORKED) + SHOWN + beats(0, 3) + BEST + LAYERS + load("!") + beats(9, 9)

    def test_what_is_handed_in_stays_as_it_was(self):
        calls = list(self.CALLS)
        answers(calls)
        self.assertEqual(calls, self.CALLS)

    def test_nothing_is_kept_from_one_time_to_the_next(self):
        first = answers(list(self.CALLS))
        self.assertEqual(answers(SHOWN), [1, -1])
        self.assertEqual(answers(BEST), [1, -1])
        kept = list(first)
        first.clear()
        self.assertEqual(answers(list(self.CALLS)), kept)

    def test_a_list_of_whole_numbers_is_given_back(self):
        told = answers(list(self.CALLS))
        self.assertIs(type(told), list)
        for number in told:
            self.assertIs(type(number), int)
        self.assertEqual(len(apart(told)), 7)


if __name__ == "__main__":
    unittest.main()
