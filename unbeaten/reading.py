"""A list of items, read from a text, and the faults 3, 4, 5 and 7 of a text's tokens.

The tokens are taken from left to right, and at each one the faults are looked for in the order
of their numbers: so the first fault met is the one to be told.
"""

from unbeaten.tokens import Fault, tokens_of

MOST_MEASURES = 4
MOST_ITEMS = 16
MOST_VALUE = 1000


class Measure:

    def __init__(self, name, up):
        self.name = name
        self.up = up


class Item:

    def __init__(self, name, row):
        self.name = name
        self.row = row


class Listing:

    def __init__(self, measures, members):
        self.measures = measures
        self.members = members

    def numbers(self):
        return list(range(len(self.members)))

    def has_item(self, number):
        return 0 <= number < len(self.members)

    def has_measure(self, number):
        return 0 <= number < len(self.measures)


class Reader:

    def __init__(self, tokens):
        self.tokens = tokens
        self.at = 0

    def take(self, kinds):
        token = self.tokens[self.at]
        if token.kind not in kinds:
            raise Fault(3, token.place)
        self.at += 1
        return token


def check_new(token, bearers):
    for bearer in bearers:
        if bearer.name == token.said:
            raise Fault(5, token.place)


def check_room(token, told, most):
    if len(told) == most:
        raise Fault(4, token.place)


def read_measure(reader, earlier):
    token = reader.take(("name",))
    check_room(token, earlier, MOST_MEASURES)
    check_new(token, earlier)
    direction = reader.take(("up", "down"))
    return Measure(token.said, direction.kind == "up")


def read_measures(reader):
    reader.take(("measures",))
    measures = [read_measure(reader, [])]
    while reader.take((",", ";")).kind == ",":
        measures.append(read_measure(reader, measures))
    return measures


def read_value(reader):
    token = reader.take(("-", "number"))
    below_zero = token.kind == "-"
    if below_zero:
        token = reader.take(("number",))
    if token.said > MOST_VALUE:
        raise Fault(7, token.place)
    if below_zero:
        return -token.said
    return token.said


def read_row(reader, size):
    row = [read_value(reader)]
    while len(row) < size:
        reader.take((",",))
        row.append(read_value(reader))
    reader.take((";",))
    return row


def read_members(reader, size):
    members = []
    token = reader.take(("item", "end"))
    while token.kind == "item":
        check_room(token, members, MOST_ITEMS)
        name = reader.take(("name",))
        check_new(name, members)
        reader.take((":",))
        members.append(Item(name.said, read_row(reader, size)))
        token = reader.take(("item", "end"))
    return members


def read_list(text):
    reader = Reader(tokens_of(text))
    measures = read_measures(reader)
    members = read_members(reader, len(measures))
    return Listing(measures, members)
