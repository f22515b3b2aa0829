"""shown: the one form, byte by byte."""

import unittest

from lines import SHOWN, WORKED, bytes_in, line, list_text, load, many_lists


def form_of(text):
    told = line(load(text), SHOWN)[1]
    if told[0] != len(told) - 1:
        raise AssertionError(f"the count does not fit: {told}")
    return told[1:]


class OneForm(unittest.TestCase):

    def check(self, text, form):
        self.assertEqual(form_of(text), bytes_in(form))

    def test_without_items(self):
        self.check("measures a up ;", "measures a up ;\n")
        self.check("measures a down,b up,c down,d up;",
                   "measures a down, b up, c down, d up ;\n")

    def test_with_items(self):
        self.check("measures a up;item b:5;", "measures a up ;\nitem b : 5 ;\n")
        self.check("measures a up,b down;item x:1,-2;item y:-1000,1000;",
                   "measures a up, b down ;\nitem x : 1, -2 ;\nitem y : -1000, 1000 ;\n")

    def test_the_worked_list(self):
        self.check(WORKED,
                   "measures price down, size up ;\nitem a : 10, 5 ;\nitem b : 8, 3 ;\n"
                   "item c : 12, 9 ;\nitem d : 12, 5 ;\nitem e : 8, 3 ;\n")

    def test_a_value_minus_0_is_0(self):
        self.check("measures a up, b up, c up ; item x : -0, - 0, 0 ;",
                   "measures a up, b up, c up ;\nitem x : 0, 0, 0 ;\n")

    def test_remarks_and_blanks_are_left_out(self):
        self.check("#x\n\n measures\ta#y\nup\n;\n\nitem b\n:\n-\n5\n;#z",
                   "measures a up ;\nitem b : -5 ;\n")

    def test_the_longest_names_and_values(self):
        names = [c * 16 for c in "abcd"]
        head = "measures " + ", ".join(n + " down" for n in names) + " ;\n"
        row = ", ".join(["-1000"] * 4)
        items = "".join(f"item {c * 16} : {row} ;\n" for c in "ABCDEFGHIJKLMNOP")
        self.check(head + items, head + items)

    def test_the_one_form_loads_to_the_same_one_form(self):
        for ups, rows in many_lists():
            form = form_of(list_text(ups, rows))
            self.assertEqual(form, bytes_in(list_text(ups, rows)))
            told = line(load(form), SHOWN)
            self.assertEqual(told, [[1, len(ups), len(rows)], [len(form)] + form])


if __name__ == "__main__":
    unittest.main()
