"""By how much an item would have to be better by one measure to be unbeaten.

Items and measures stand here by their numbers.
"""

from unbeaten.beating import beaters_of, lead


def same_but_at(row, other_row, measure_number):
    for at, value in enumerate(row):
        if at != measure_number and value != other_row[at]:
            return False
    return True


def gain_against(listing, number, beater, measure_number):
    row = listing.members[number].row
    beater_row = listing.members[beater].row
    measure = listing.measures[measure_number]
    behind = lead(measure, beater_row[measure_number], row[measure_number])
    # Items that are the same by all measures don't beat one another, so drawing level is enough
    # then; a beater that is better elsewhere too has to be passed.
    if same_but_at(row, beater_row, measure_number):
        return behind
    return behind + 1


def gain_of(listing, number, measure_number):
    # An item that does not beat this one does not beat it when it is better either, so the
    # items that beat it now are all that ask for a gain.
    gains = [
        gain_against(listing, number, beater, measure_number)
        for beater in beaters_of(listing, number)
    ]
    return max(gains, default=0)
