"""What the tests share: calls written out, answers taken apart, and lists to try."""

from unbeaten.lists import answers

MOST_NUMBERS = 16900
MOST_CALLS = 60

SHOWN = [1]
BEST = [3]
LAYERS = [4]

WORKED = (
    "measures price down, size up ; item a : 10, 5 ; item b : 8, 3 ; "
    "item c : 12, 9 ; item d : 12, 5 ; item e : 8, 3 ;"
)


def bytes_in(text):
    return list(text.encode("ascii")) if isinstance(text, str) else list(text)


def load(text):
    given = bytes_in(text)
    return [0, len(given)] + given


def beats(i, j):
    return [2, i, j]


def apart(flat):
    """The answers of a line, one list each, without the counts ahead of them."""
    told = []
    at = 0
    while at < len(flat):
        past = at + 1 + flat[at]
        if flat[at] < 1 or past > len(flat):
            raise AssertionError(f"the count at {at} does not fit: {flat}")
        told.append(flat[at + 1:past])
        at = past
    return told


def line(*calls):
    """What the calls answer, each on its own, on one object."""
    flat = [number for call in calls for number in call]
    if len(calls) > MOST_CALLS or len(flat) > MOST_NUMBERS:
        raise AssertionError("no such line may be handed in")
    told = apart(answers(flat))
    if len(told) != len(calls):
        raise AssertionError(f"{len(calls)} calls, {len(told)} answers")
    return told


def fault(text):
    """What is told of a text that is no right list: its fault's code and its place."""
    told = line(load(text))[0]
    if len(told) != 3 or told[0] != 0:
        raise AssertionError(f"no fault told: {told}")
    return tuple(told[1:])


def list_text(ups, rows):
    """A list with a measure for each of ups (True: up), and an item for each row."""
    measures = ", ".join(f"m{k} {'up' if up else 'down'}" for k, up in enumerate(ups))
    items = [
        f"item i{k} : {', '.join(str(value) for value in row)} ;\n"
        for k, row in enumerate(rows)
    ]
    return f"measures {measures} ;\n" + "".join(items)


def plainly_beats(ups, row, other):
    signed = [(v, w) if up else (-v, -w) for up, v, w in zip(ups, row, other)]
    return all(v >= w for v, w in signed) and any(v > w for v, w in signed)


def plain_layers(ups, rows):
    """The layers by their words alone: each is the items that none of those left beats."""
    left = set(range(len(rows)))
    layers = []
    while left:
        layer = {
            i for i in left if not any(plainly_beats(ups, rows[j], rows[i]) for j in left)
        }
        layers.append(sorted(layer))
        left -= layer
    return layers


def counted_layers(layers):
    return [len(layers)] + [n for layer in layers for n in [len(layer)] + layer]


def stepped(seed):
    """An endless row of numbers from 0 to 32767, always the same for one seed."""
    state = seed
    while True:
        state = (state * 1103515245 + 12345) % 2147483648
        yield state // 65536


def many_lists():
    """Lists of 0 to 16 items by 1 to 4 measures, with few and with many different values."""
    steps = stepped(7)
    for size in range(17):
        for width in range(1, 5):
            for spread in (2, 4, 2001):
                ups = [next(steps) % 2 == 0 for _ in range(width)]
                rows = [
                    [next(steps) % spread - spread // 2 for _ in range(width)]
                    for _ in range(size)
                ]
                yield ups, rows
