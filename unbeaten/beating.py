"""Which item beats which and why, which are unbeaten, and the layers.

Items stand here by their numbers.
"""


def lead(measure, value, other):
    if measure.up:
        return value - other
    return other - value


def is_better(measure, value, other):
    return lead(measure, value, other) > 0


def row_beats(measures, row, other_row):
    better_once = False
    for measure, value, other in zip(measures, row, other_row):
        if is_better(measure, other, value):
            return False
        if is_better(measure, value, other):
            better_once = True
    return better_once


def beats(listing, number, other):
    return row_beats(listing.measures, listing.members[number].row, listing.members[other].row)


def are_same(listing, number, other):
    return listing.members[number].row == listing.members[other].row


def is_unbeaten(listing, number, among):
    for other in among:
        if beats(listing, other, number):
            return False
    return True


def unbeaten_among(listing, among):
    return [number for number in among if is_unbeaten(listing, number, among)]


def beaters_of(listing, number):
    return [other for other in listing.numbers() if beats(listing, other, number)]


def beaten_by(listing, number):
    return [other for other in listing.numbers() if beats(listing, number, other)]


def reasons_of(listing, number):
    return unbeaten_among(listing, beaters_of(listing, number))


def layers_of(listing):
    layers = []
    left = listing.numbers()
    while len(left) > 0:
        layer = unbeaten_among(listing, left)
        layers.append(layer)
        left = [number for number in left if number not in layer]
    return layers


def layer_number(listing, number):
    in_layers = [number in layer for layer in layers_of(listing)]
    return in_layers.index(True) + 1
