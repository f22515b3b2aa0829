"""answers: a line of calls on one object, and what is handed in and given back."""

import unittest

from lines import (BEST, HIGHEST, LAYERS, LOWEST, SHOWN, WORKED, apart, beaten, beaters, beats,
                   bytes_in, counted, counted_layers, gain, item, line, list_text, load, many_lists,
                   plain_beaten, plain_beaters, plain_gain, plain_layer, plain_layers,
                   plain_reasons, plainly_beats, stepped)
from unbeaten.lists import answers

ASKING = [SHOWN, beats(0, 0), BEST, LAYERS, beaters(0), beaten(0), gain(0, 0), item(0)]
ARGUMENTS = (0, 1, -1, 4, 15, 16, 99, HIGHEST, LOWEST)
FAILING = ("", "!", "measures", "measures a up, a up ;", "measures a up ; item x : 1001 ;",
           " " * 4097)


def plain_answer(ups, rows, call):
    """What a call that is not refused answers about a list that list_text wrote, by the words."""
    number, at = call[0], call[1:]
    if number == 1:
        return counted(bytes_in(list_text(ups, rows)))
    if number == 2:
        i, j = rows[at[0]], rows[at[1]]
        return [1 if plainly_beats(ups, i, j) else 2 if plainly_beats(ups, j, i) else
                3 if i == j else 0]
    if number == 3:
        return counted((plain_layers(ups, rows) + [[]])[0])
    if number == 4:
        return counted_layers(plain_layers(ups, rows))
    if number == 5:
        return counted(plain_beaters(ups, rows, *at)) + counted(plain_reasons(ups, rows, *at))
    if number == 6:
        return counted(plain_beaten(ups, rows, *at))
    if number == 7:
        return [plain_gain(ups, rows, *at)]
    return [plain_layer(ups, rows, *at)] + counted(bytes_in(f"i{at[0]}")) + rows[at[0]]


class WorkedLine(unittest.TestCase):

    CALLS = [
        (load(WORKED), [1, 2, 5]),
        (BEST, [4, 0, 1, 2, 4]),
        (LAYERS, [2, 4, 0, 1, 2, 4, 1, 3]),
        (beats(0, 3), [1]),
        (beats(3, 0), [2]),
        (beats(1, 4), [3]),
        (beats(0, 1), [0]),
        (beaters(3), [2, 0, 2, 2, 0, 2]),
        (beaten(0), [1, 3]),
        (gain(3, 0), [2]),
        (gain(3, 1), [4]),
        (gain(0, 1), [0]),
        (item(3), [2, 1, 100, 12, 5]),
    ]

    def test_call_by_call(self):
        for call, told in self.CALLS[1:]:
            self.assertEqual(line(load(WORKED), call), [[1, 2, 5], told])

    def test_as_one_list_of_calls(self):
        flat = [number for call, told in self.CALLS for number in call]
        self.assertEqual(answers(flat), [
            3, 1, 2, 5,
            5, 4, 0, 1, 2, 4,
            8, 2, 4, 0, 1, 2, 4, 1, 3,
            1, 1,
            1, 2,
            1, 3,
            1, 0,
            6, 2, 0, 2, 2, 0, 2,
            2, 1, 3,
            1, 2,
            1, 4,
            1, 0,
            5, 2, 1, 100, 12, 5,
        ])


class NoList(unittest.TestCase):

    def test_each_call_but_load_is_refused(self):
        for call in ASKING:
            self.assertEqual(answers(list(call)), [1, -1])
        self.assertEqual(line(*ASKING), [[-1]] * 8)

    def test_ahead_of_all_other_refusals(self):
        for i in ARGUMENTS:
            self.assertEqual(line(beaters(i), beaten(i), item(i)), [[-1]] * 3)
            for j in ARGUMENTS:
                self.assertEqual(line(beats(i, j), gain(i, j)), [[-1]] * 2)

    def test_behind_a_load_that_failed(self):
        for text in FAILING:
            for i in ARGUMENTS:
                told = line(load(text), *ASKING, beats(i, 0), beaters(i), beaten(i), gain(i, 0),
                            gain(0, i), gain(i, i), item(i))
                self.assertEqual(told[0][0], 0)
                self.assertEqual(told[1:], [[-1]] * 15)

    def test_a_refusal_changes_nothing(self):
        told = line(*ASKING, load(WORKED), beats(0, 5), beats(-1, 0), beaters(5), beaten(-1),
                    gain(5, 2), gain(3, 2), item(5), BEST, gain(3, 1))
        self.assertEqual(told[8:], [[1, 2, 5], [-2], [-2], [-2], [-2], [-2], [-3], [-2],
                                    [4, 0, 1, 2, 4], [4]])

    def test_a_list_without_items_is_a_list(self):
        form = bytes_in("measures a up ;\n")
        self.assertEqual(line(load("measures a up ;"), *ASKING),
                         [[1, 1, 0], [16] + form, [-2], [0], [0], [-2], [-2], [-2], [-2]])


class ListHeld(unittest.TestCase):

    def test_a_load_that_failed_leaves_all_answers_as_they_were(self):
        asking = [SHOWN, beats(0, 3), BEST, LAYERS, beaters(3), beaten(2), gain(3, 1), item(3),
                  item(5), gain(3, 2)]
        before = line(load(WORKED), *asking)[1:]
        self.assertNotIn([-1], before)
        for text in FAILING:
            told = line(load(WORKED), load(text), *asking, load(text), *asking)
            self.assertEqual(told[1][0], 0)
            self.assertEqual(told[2:12], before)
            self.assertEqual(told[12], told[1])
            self.assertEqual(told[13:], before)

    def test_no_call_changes_the_list(self):
        asking = [SHOWN, beats(3, 0), BEST, LAYERS, beaters(3), beaten(0), gain(3, 0), item(3)]
        once = line(load(WORKED), *asking)[1:]
        for call, told in zip(asking, once):
            self.assertEqual(line(load(WORKED), call, *asking, call)[1:], [told] + once + [told])


class Lines(unittest.TestCase):

    def test_one_call(self):
        self.assertEqual(answers([0, 0]), [3, 0, 3, 0])
        self.assertEqual(answers(load("measures a up ;")), [3, 1, 1, 0])

    def test_60_calls(self):
        calls = [load(WORKED)] + [beats(k % 5, k // 5 % 5) for k in range(58)] + [LAYERS]
        told = line(*calls)
        self.assertEqual(len(told), 60)
        self.assertEqual(told[0], [1, 2, 5])
        for k in range(58):
            self.assertEqual(told[k + 1], line(load(WORKED), calls[k + 1])[1])
        self.assertEqual(told[59], [2, 4, 0, 1, 2, 4, 1, 3])

    def test_60_calls_of_all_nine_kinds_with_several_loads(self):
        steps = stepped(3)
        lists = [(ups, rows) for ups, rows in many_lists()
                 if rows and max(map(max, rows)) < 3]
        for _ in range(60):
            calls, told = [], []
            while len(calls) < 60:
                if len(calls) % 12 == 0:
                    ups, rows = lists[next(steps) % len(lists)]
                    calls.append(load(list_text(ups, rows)))
                    told.append([1, len(ups), len(rows)])
                elif len(calls) % 12 == 7:
                    calls.append(load("measures a up, a"))
                    told.append([0, 5, 15])
                else:
                    i, j, m = next(steps), next(steps), next(steps)
                    i, j, m = i % len(rows), j % len(rows), m % len(ups)
                    # Steps of 5 meet each of the eight kinds, whatever call is left out between.
                    call = [SHOWN, beats(i, j), BEST, LAYERS, beaters(i), beaten(i), gain(i, m),
                            item(i)][5 * len(calls) % 8]
                    calls.append(call)
                    told.append(plain_answer(ups, rows, call))
            self.assertEqual({call[0] for call in calls}, set(range(9)))
            self.assertEqual(line(*calls), told)

    def test_60_loads(self):
        self.assertEqual(line(*[load("measures a up ;")] * 60), [[1, 1, 0]] * 60)

    def test_a_later_load_takes_the_place_of_the_earlier_list(self):
        up = list_text([True], [[1], [2], [3]])
        down = list_text([False], [[1], [2]])
        self.assertEqual(
            line(load(up), BEST, load(down), BEST, LAYERS, beats(0, 1), beats(0, 2), load(""),
                 BEST, load(up), LAYERS),
            [[1, 1, 3], [1, 2], [1, 1, 2], [1, 0], [2, 1, 0, 1, 1], [1], [-2], [0, 3, 0],
             [1, 0], [1, 1, 3], [3, 1, 2, 1, 1, 1, 0]])

    def test_texts_of_8192_bytes(self):
        told = line(load(WORKED), load([0] * 8192), load([32] * 8192), BEST)
        self.assertEqual(told, [[1, 2, 5], [0, 1, 4096], [0, 1, 4096], [4, 0, 1, 2, 4]])

    def test_bytes_of_a_text_are_no_calls(self):
        self.assertEqual(line(load([0, 3, 4]), LAYERS), [[0, 2, 0], [-1]])


class HandedInAndBack(unittest.TestCase):

    CALLS = (load(WORKED) + SHOWN + beats(0, 3) + BEST + LAYERS + beaters(3) + beaten(0)
             + gain(3, 1) + item(3) + load("!") + beats(9, 9) + beaters(-1) + gain(0, HIGHEST)
             + item(LOWEST) + gain(3, 0))

    def test_60_calls_twice(self):
        calls = self.CALLS * 4
        kept = list(calls)
        first = answers(calls)
        self.assertEqual(calls, kept)
        self.assertEqual(answers(calls), first)
        self.assertEqual(len(apart(first)), 60)

    def test_what_is_handed_in_stays_as_it_was(self):
        calls = list(self.CALLS)
        answers(calls)
        self.assertEqual(calls, self.CALLS)

    def test_nothing_is_kept_from_one_time_to_the_next(self):
        first = answers(list(self.CALLS))
        for call in ASKING:
            self.assertEqual(answers(list(call)), [1, -1])
        kept = list(first)
        first.clear()
        self.assertEqual(answers(list(self.CALLS)), kept)

    def test_a_list_of_whole_numbers_is_given_back(self):
        told = answers(list(self.CALLS))
        self.assertIs(type(told), list)
        for number in told:
            self.assertIs(type(number), int)
        self.assertEqual(len(apart(told)), 15)


if __name__ == "__main__":
    unittest.main()
