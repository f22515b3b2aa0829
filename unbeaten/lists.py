"""The calls on one object, which holds a list of items or none, and what they answer."""

from unbeaten.beating import are_same, beaten_by, beaters_of, beats, layer_number, layers_of
from unbeaten.beating import reasons_of, unbeaten_among
from unbeaten.gains import gain_of
from unbeaten.reading import read_list
from unbeaten.showing import one_form
from unbeaten.tokens import Fault

LOAD = 0
SHOWN = 1
BEATS = 2
BEST = 3
LAYERS = 4
BEATERS = 5
BEATEN = 6
GAIN = 7

# How many whole numbers a call has behind its own; load is not here, as its row tells its length.
ARGUMENT_COUNTS = {1: 0, 2: 2, 3: 0, 4: 0, 5: 1, 6: 1, 7: 2, 8: 1}


class Holder:

    def __init__(self):
        self.held = None

    def load(self, text):
        try:
            self.held = read_list(text)
        except Fault as fault:
            return [0, fault.code, fault.place]
        return [1, len(self.held.measures), len(self.held.members)]

    def answer(self, call):
        if call[0] == LOAD:
            return self.load(call[2:])
        if self.held is None:
            return [-1]
        return answer_about(self.held, call)


def counted(numbers):
    return [len(numbers)] + numbers


def compared(listing, number, other):
    if not (listing.has_item(number) and listing.has_item(other)):
        return [-2]
    if beats(listing, number, other):
        return [1]
    if beats(listing, other, number):
        return [2]
    if are_same(listing, number, other):
        return [3]
    return [0]


def layers_told(listing):
    layers = layers_of(listing)
    told = [len(layers)]
    for layer in layers:
        told.extend(counted(layer))
    return told


def beaters_told(listing, number):
    return counted(beaters_of(listing, number)) + counted(reasons_of(listing, number))


def gain_told(listing, number, measure_number):
    if not listing.has_measure(measure_number):
        return [-3]
    return [gain_of(listing, number, measure_number)]


def item_told(listing, number):
    item = listing.members[number]
    return [layer_number(listing, number)] + counted(item.name) + item.row


def answer_about_item(listing, call):
    if not listing.has_item(call[1]):
        return [-2]
    if call[0] == BEATERS:
        return beaters_told(listing, call[1])
    if call[0] == BEATEN:
        return counted(beaten_by(listing, call[1]))
    if call[0] == GAIN:
        return gain_told(listing, call[1], call[2])
    return item_told(listing, call[1])


def answer_about(listing, call):
    if call[0] == SHOWN:
        return counted(one_form(listing))
    if call[0] == BEATS:
        return compared(listing, call[1], call[2])
    if call[0] == BEST:
        return counted(unbeaten_among(listing, listing.numbers()))
    if call[0] == LAYERS:
        return layers_told(listing)
    return answer_about_item(listing, call)


def call_end(calls, at):
    if calls[at] == LOAD:
        return at + 2 + calls[at + 1]
    return at + 1 + ARGUMENT_COUNTS[calls[at]]


def answers(calls):
    holder = Holder()
    told = []
    at = 0
    while at < len(calls):
        past = call_end(calls, at)
        told.extend(counted(holder.answer(calls[at:past])))
        at = past
    return told
