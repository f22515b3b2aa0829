"""The one form of a list of items, as bytes."""

from unbeaten.tokens import bytes_of


def with_commas(parts):
    joined = list(parts[0])
    for part in parts[1:]:
        joined.extend(bytes_of(", "))
        joined.extend(part)
    return joined


def measure_part(measure):
    if measure.up:
        return measure.name + bytes_of(" up")
    return measure.name + bytes_of(" down")


def measures_line(measures):
    parts = [measure_part(measure) for measure in measures]
    return bytes_of("measures ") + with_commas(parts) + bytes_of(" ;\n")


def item_line(item):
    parts = [bytes_of(str(value)) for value in item.row]
    return bytes_of("item ") + item.name + bytes_of(" : ") + with_commas(parts) + bytes_of(" ;\n")


def one_form(listing):
    form = measures_line(listing.measures)
    for item in listing.members:
        form.extend(item_line(item))
    return form
