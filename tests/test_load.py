"""load: lists that are right, and each fault with its place."""

import unittest

from lines import SHOWN, bytes_in, fault, line, list_text, load

HEAD = "measures a up ; "


def put(text, at, piece):
    return text[:at] + piece + text[at:]


class RightLists(unittest.TestCase):

    def test_each_count_of_measures_and_items(self):
        for width in range(1, 5):
            for size in range(17):
                text = list_text([True] * width, [[0] * width] * size)
                self.assertEqual(line(load(text)), [[1, width, size]])

    def test_names_at_their_edges(self):
        for name in ("a", "Z", "z9", "A0b1", "a" * 16, "Measures", "UP", "items", "itemup"):
            with self.subTest(name=name):
                text = f"measures {name} up ; item {name} : 0 ;"
                self.assertEqual(line(load(text)), [[1, 1, 1]])

    def test_an_item_may_have_a_measures_name(self):
        self.assertEqual(line(load("measures a up, b down ; item a : 1, 2 ; item b : 3, 4 ;")),
                         [[1, 2, 2]])

    def test_names_differ_by_case_and_by_each_byte(self):
        self.assertEqual(line(load("measures a up, A up, aa up, a1 up ;")), [[1, 4, 0]])

    def test_values_at_their_edges(self):
        for value in ("0", "-0", "1", "-1", "999", "1000", "-1000", "- 1000", "-#x\n5"):
            with self.subTest(value=value):
                self.assertEqual(line(load(HEAD + f"item i : {value} ;")), [[1, 1, 1]])

    def test_tokens_part_themselves(self):
        self.assertEqual(line(load("measures a up,b down;item c:1,-2;item d:3,4;")), [[1, 2, 2]])

    def test_a_letter_right_behind_a_number_begins_a_name(self):
        text = HEAD + "item i : 5x ;"
        self.assertEqual(fault(text), (3, text.index("x")))

    def test_blanks_and_remarks_between_any_two_tokens_and_at_both_ends(self):
        tokens = "measures a up , b down ; item c : 1 , - 2 ;".split()
        gaps = (" ", "\t", "\n", " \t\n\n", "#\n", "# item $ 007 \"\n", "\n#a\n#b\n \t",
                "\n# \xff\0\r\n")
        for gap in gaps:
            with self.subTest(gap=gap):
                text = gap + gap.join(tokens) + gap
                told = line(load(text.encode("latin-1")), SHOWN)
                self.assertEqual(told[0], [1, 2, 1])
                self.assertEqual(told[1][1:],
                                 bytes_in("measures a up, b down ;\nitem c : 1, -2 ;\n"))

    def test_a_remark_ends_with_the_text(self):
        for remark in ("#", "# x", "## item"):
            self.assertEqual(line(load(HEAD + remark)), [[1, 1, 0]])
        self.assertEqual(fault("#" + HEAD), (3, len(HEAD) + 1))

    def test_blanks_and_remarks_part_tokens(self):
        self.assertEqual(fault("mea sures a up ;"), (3, 0))
        self.assertEqual(fault("measures a u#\np ;"), (3, 11))
        self.assertEqual(fault(HEAD + "item i : 1 0 ;"), (3, len(HEAD) + 11))


class Fault1(unittest.TestCase):

    def test_4096_bytes_are_right_in_length(self):
        for filler in (" ", "\n", "#"):
            text = HEAD + filler * (4096 - len(HEAD))
            self.assertEqual(line(load(text)), [[1, 1, 0]])
        self.assertEqual(fault(" " * 4096), (3, 4096))

    def test_longer_texts(self):
        for size in (4097, 5000, 8192):
            self.assertEqual(fault(HEAD + " " * (size - len(HEAD))), (1, 4096))

    def test_it_is_told_ahead_of_all_others(self):
        for size in (4097, 8192):
            self.assertEqual(fault([0] * size), (1, 4096))
            self.assertEqual(fault([255] * size), (1, 4096))
            self.assertEqual(fault("0" * size), (1, 4096))
            self.assertEqual(fault(("item " * size)[:size]), (1, 4096))


class Fault2(unittest.TestCase):

    def test_each_byte_that_begins_no_token(self):
        begins = set(bytes_in(
            "ABCDEFGHIJKLMNOPQRSTUVWXYZabcdefghijklmnopqrstuvwxyz0123456789,:;- \t\n#"))
        for byte in range(256):
            text = bytes_in(HEAD) + [byte]
            told = line(load(text))[0]
            with self.subTest(byte=byte):
                if byte not in begins:
                    self.assertEqual(told, [0, 2, len(HEAD)])
                else:
                    self.assertNotEqual(told[:2], [0, 2])

    def test_it_is_told_at_each_place_where_a_token_has_to_begin(self):
        text = "measures a up ; item b : 1 ;"
        for at in range(len(text) + 1):
            with self.subTest(at=at):
                self.assertEqual(fault(put(text, at, "_")), (2, at))
                self.assertEqual(fault(put(text, at, " . ")), (2, at + 1))

    def test_within_a_remark_every_byte_is_right(self):
        every = [byte for byte in range(256) if byte != 10]
        self.assertEqual(line(load(bytes_in(HEAD) + [35] + every)), [[1, 1, 0]])
        self.assertEqual(fault(bytes_in(HEAD) + [35] + every + [10, 13]),
                         (2, len(HEAD) + 257))

    def test_names_of_16_and_of_17_bytes(self):
        self.assertEqual(line(load(f"measures {'n' * 16} up ;")), [[1, 1, 0]])
        self.assertEqual(fault(f"measures {'n' * 17} up ;"), (2, 9))
        self.assertEqual(fault(f"measures  {'n1' * 9} up ;"), (2, 10))
        self.assertEqual(line(load(HEAD + f"item {'N' * 16} : 1 ;")), [[1, 1, 1]])
        self.assertEqual(fault(HEAD + f"item {'N' * 17} : 1 ;"), (2, len(HEAD) + 5))
        self.assertEqual(fault("measures" * 3), (2, 0))

    def test_numbers_too_great(self):
        at = len(HEAD) + 9
        for number in ("1000000001", "1000000010", "2000000000", "9999999999", "10000000000",
                       "9" * 4000):
            with self.subTest(digits=len(number)):
                self.assertEqual(fault(HEAD + f"item i : {number} ;"), (2, at))
                self.assertEqual(fault(HEAD + f"item i : -{number} ;"), (2, at + 1))

    def test_numbers_that_are_tokens_yet_too_great_for_values(self):
        at = len(HEAD) + 9
        for number in ("1000000000", "999999999", "1001"):
            self.assertEqual(fault(HEAD + f"item i : {number} ;"), (7, at))

    def test_needless_zeros(self):
        at = len(HEAD) + 9
        for number in ("00", "01", "000", "0999", "01000000000", "0" * 17):
            self.assertEqual(fault(HEAD + f"item i : {number} ;"), (2, at))
            self.assertEqual(fault(HEAD + f"item i : -{number} ;"), (2, at + 1))
        self.assertEqual(line(load(HEAD + "item i : 0 ;")), [[1, 1, 1]])
        self.assertEqual(fault(HEAD + "item i : 0 0 ;"), (3, at + 2))

    def test_it_is_told_ahead_of_all_but_1(self):
        texts = (
            "item ; ; .",
            "measures a up, a up ; .",
            "measures a up, b up, c up, d up, e up ; .",
            HEAD + "item i : 2000 ; .",
            ": 1 - 1000000001",
            "; " * 9 + "x" * 17,
            "; 00",
        )
        for text in texts:
            with self.subTest(text=text):
                self.assertEqual(fault(text)[0], 2)
        self.assertEqual(fault("; 00"), (2, 2))

    def test_the_first_of_several(self):
        self.assertEqual(fault("00 . " + "x" * 17), (2, 0))
        self.assertEqual(fault("x 1000000001 00 ."), (2, 2))


class Fault3(unittest.TestCase):

    KINDS = {
        "measures": "measures", "up": "up", "down": "down", "item": "item", "name": "zz",
        "number": "7", ",": ",", ":": ":", ";": ";", "-": "-", "end": "",
    }
    # What is allowed at each token of the list below, and at its end.
    TOKENS = ("measures", "a", "up", ",", "b", "down", ";",
              "item", "i", ":", "1", ",", "-", "2", ";",
              "item", "j", ":", "3", ",", "4", ";")
    ALLOWED = (
        ("measures",), ("name",), ("up", "down"), (",", ";"), ("name",), ("up", "down"), (",", ";"),
        ("item", "end"), ("name",), (":",), ("-", "number"), (",",), ("-", "number"), ("number",),
        (";",),
        ("item", "end"), ("name",), (":",), ("-", "number"), (",",), ("-", "number"), (";",),
        ("item", "end"),
    )

    def test_each_kind_of_token_at_each_place(self):
        for at, allowed in enumerate(self.ALLOWED):
            ahead = "".join(token + " " for token in self.TOKENS[:at])
            for kind, token in self.KINDS.items():
                text = ahead + token
                told = line(load(text))[0]
                with self.subTest(text=text):
                    if kind not in allowed:
                        self.assertEqual(told, [0, 3, len(ahead)])
                    elif kind == "end":
                        self.assertEqual(told[0], 1)
                    else:
                        self.assertNotEqual(told, [0, 3, len(ahead)])

    def test_the_texts_end(self):
        whole = "measures a up , b down ; item i : 1 , - 2 ;"
        tokens = whole.split()
        for told in range(len(tokens)):
            text = " ".join(tokens[:told])
            if told != 7:
                with self.subTest(text=text):
                    self.assertEqual(fault(text), (3, len(text)))
                    self.assertEqual(fault(text + " # x\n "), (3, len(text) + 6))

    def test_texts_without_a_token(self):
        self.assertEqual(fault(""), (3, 0))
        for text in (" ", "\n\t ", "#", "# measures a up ;", "#\n#\n"):
            self.assertEqual(fault(text), (3, len(text)))

    def test_the_four_words_are_no_names(self):
        for word in ("measures", "up", "down", "item"):
            self.assertEqual(fault(f"measures {word} up ;"), (3, 9))
            self.assertEqual(fault(f"measures a up, {word} up ;"), (3, 15))
            self.assertEqual(fault(HEAD + f"item {word} : 1 ;"), (3, len(HEAD) + 5))

    def test_too_few_and_too_many_values(self):
        for width in range(1, 5):
            head = list_text([False] * width, [])
            for told in range(1, 7):
                text = head + "item i : " + ", ".join(["1"] * told)
                with self.subTest(width=width, told=told):
                    if told == width:
                        self.assertEqual(line(load(text + " ;")), [[1, width, 1]])
                    elif told < width:
                        self.assertEqual(fault(text + " ;"), (3, len(text) + 1))
                    else:
                        comma = len(head) + 9 + 3 * width - 2
                        self.assertEqual(fault(text + " ;"), (3, comma))
            self.assertEqual(fault(head + "item i : ;"), (3, len(head) + 9))

    def test_a_second_minus(self):
        self.assertEqual(fault(HEAD + "item i : --1 ;"), (3, len(HEAD) + 10))

    def test_a_second_row_of_measures(self):
        self.assertEqual(fault(HEAD + HEAD), (3, len(HEAD)))


class Fault4(unittest.TestCase):

    FOUR = "measures a up, b up, c up, d up"

    def test_a_fifth_measures_name(self):
        self.assertEqual(line(load(self.FOUR + " ;")), [[1, 4, 0]])
        self.assertEqual(fault(self.FOUR + ", e up ;"), (4, len(self.FOUR) + 2))
        self.assertEqual(fault(self.FOUR + ", e"), (4, len(self.FOUR) + 2))

    def test_another_token_behind_the_fourth_measures_comma(self):
        for token in ("", "item", "up", "1", ",", ";", ":", "-", "measures", "down"):
            self.assertEqual(fault(self.FOUR + ", " + token), (3, len(self.FOUR) + 2))

    def test_a_fifth_measures_name_that_an_earlier_one_has(self):
        for name in "abcd":
            self.assertEqual(fault(f"{self.FOUR}, {name} up ;"), (4, len(self.FOUR) + 2))

    def test_a_seventeenth_items_word(self):
        text = list_text([True], [[k] for k in range(16)])
        self.assertEqual(line(load(text)), [[1, 1, 16]])
        for rest in ("item", "item x : 1 ;", "item i0 : 1 ;", "item ;", "item item"):
            self.assertEqual(fault(text + rest), (4, len(text)))

    def test_another_token_behind_the_sixteenth_item(self):
        text = list_text([True], [[k] for k in range(16)])
        for rest in ("x", "1", ",", ";", ":", "-", "measures", "up", "down"):
            self.assertEqual(fault(text + rest), (3, len(text)))


class Fault5(unittest.TestCase):

    def test_a_measures_name_told_before(self):
        self.assertEqual(fault("measures a up, a up ;"), (5, 15))
        self.assertEqual(fault("measures a up, b up, a down ;"), (5, 21))
        self.assertEqual(fault("measures a up, b up, c up, b"), (5, 27))

    def test_an_items_name_told_before(self):
        text = HEAD + "item i : 1 ; item j : 1 ; "
        for name in "ij":
            self.assertEqual(fault(text + f"item {name} : 1 ;"), (5, len(text) + 5))
            self.assertEqual(fault(text + f"item {name}"), (5, len(text) + 5))

    def test_names_of_16_bytes(self):
        long = "n" * 15
        self.assertEqual(line(load(f"measures {long}x up, {long}y up ;")), [[1, 2, 0]])
        self.assertEqual(fault(f"measures {long}x up, {long}x up ;"), (5, 30))


class Fault7(unittest.TestCase):

    def test_1000_is_right_and_1001_is_not(self):
        at = len(HEAD) + 9
        self.assertEqual(line(load(HEAD + "item i : 1000 ;")), [[1, 1, 1]])
        self.assertEqual(fault(HEAD + "item i : 1001 ;"), (7, at))
        self.assertEqual(line(load(HEAD + "item i : -1000 ;")), [[1, 1, 1]])
        self.assertEqual(fault(HEAD + "item i : -1001 ;"), (7, at + 1))
        self.assertEqual(fault(HEAD + "item i : -  1001 ;"), (7, at + 3))

    def test_at_each_value(self):
        for k in range(4):
            row = ["1"] * 4
            row[k] = "1001"
            text = "measures a up, b up, c up, d up ; item i : " + ", ".join(row) + " ;"
            self.assertEqual(fault(text), (7, text.index("1001")))

    def test_a_number_where_none_is_allowed(self):
        self.assertEqual(fault("1001"), (3, 0))
        self.assertEqual(fault("measures 1001"), (3, 9))
        self.assertEqual(fault(HEAD + "item i : 1 1001"), (3, len(HEAD) + 11))


class TwoFaults(unittest.TestCase):

    def test_from_left_to_right(self):
        text = HEAD + "item i : 1001 ; item i : 1 ; ;"
        self.assertEqual(fault(text), (7, len(HEAD) + 9))
        text = HEAD + "item i : 1 ; item i : 1001 ; ;"
        self.assertEqual(fault(text), (5, len(HEAD) + 18))
        text = HEAD + "item i : 1 ; ; item i : 1001 ;"
        self.assertEqual(fault(text), (3, len(HEAD) + 13))
        text = "measures a up, b up, c up, a up, e up ;"
        self.assertEqual(fault(text), (5, 27))
        text = "measures a up, b up, c up, d up, e 1001"
        self.assertEqual(fault(text), (4, 33))


class FailedLoads(unittest.TestCase):

    BAD = (" " * 4097, "!", "", "measures a up, b up, c up, d up, e", "measures a up, a up ;",
           HEAD + "item i : 1001 ;", HEAD + "item x : 1 ; item y : ;")

    def test_the_list_stays_as_it_was(self):
        text = "measures p down ;\nitem q : -7 ;\n"
        form = [len(text)] + bytes_in(text)
        for bad in self.BAD:
            told = line(load(text), load(bad), SHOWN)
            with self.subTest(bad=bad[:40]):
                self.assertEqual(told[0], [1, 1, 1])
                self.assertEqual((len(told[1]), told[1][0]), (3, 0))
                self.assertEqual(told[2], form)

    def test_there_is_still_no_list(self):
        for bad in self.BAD:
            told = line(load(bad), SHOWN, load(HEAD), SHOWN)
            with self.subTest(bad=bad[:40]):
                self.assertEqual(told[1], [-1])
                self.assertEqual(told[2], [1, 1, 0])
                self.assertEqual(told[3], [16] + bytes_in("measures a up ;\n"))


if __name__ == "__main__":
    unittest.main()
