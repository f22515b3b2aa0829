"""What the tests share: calls written out, answers taken apart, and lists to try."""

from unbeaten.lists import answers

MOST_NUMBERS = 16900
MOST_CALLS = 60

SHOWN = [1]
BEST = [3]
LAYERS = [4]

# Both ends of the range of a number that is handed in for an item or a measure.
LOWEST = -10 ** 18
HIGHEST = 10 ** 18

WORKED = (
    "measures price down, size up ; item a : 10, 5 ; item b : 8, 3 ; "
    "item c : 12, 9 ; item d : 12, 5 ; item e : 8, 3 ;"
)


def bytes_in(text):
    return list(text.encode("ascii")) if isinstance(text, str) else list(text)


def load(text):
    given = bytes_in(text)
    return [0, len(given)] + given


def beats(i, j):
    return [2, i, j]


def beaters(i):
    return [5, i]


def beaten(i):
    return [6, i]


def gain(i, m):
    return [7, i, m]


def item(i):
    return [8, i]


def apart(flat):
    """The answers of a line, one list each, without the counts ahead of them."""
    told = []
    at = 0
    while at < len(flat):
        past = at + 1 + flat[at]
        if flat[at] < 1 or past > len(flat):
            raise AssertionError(f"the count at {at} does not fit: {flat}")
        told.append(flat[at + 1:past])
        at = past
    return told


def line(*calls):
    """What the calls answer, each on its own, on one object."""
    flat = [number for call in calls for number in call]
    if len(calls) > MOST_CALLS or len(flat) > MOST_NUMBERS:
        raise AssertionError("no such line may be handed in")
    told = apart(answers(flat))
    if len(told) != len(calls):
        raise AssertionError(f"{len(calls)} calls, {len(told)} answers")
    return told


def asked(text, calls):
    """What the calls answer about one list, over as many lines as it takes."""
    told = []
    for at in range(0, len(calls), MOST_CALLS - 1):
        told.extend(line(load(text), *calls[at:at + MOST_CALLS - 1])[1:])
    return told


def fault(text):
    """What is told of a text that is no right list: its fault's code and its place."""
    told = line(load(text))[0]
    if len(told) != 3 or told[0] != 0:
        raise AssertionError(f"no fault told: {told}")
    return tuple(told[1:])


def list_text(ups, rows):
    """A list with a measure for each of ups (True: up), and an item for each row."""
    measures = ", ".join(f"m{k} {'up' if up else 'down'}" for k, up in enumerate(ups))
    items = [
        f"item i{k} : {', '.join(str(value) for value in row)} ;\n"
        for k, row in enumerate(rows)
    ]
    return f"measures {measures} ;\n" + "".join(items)


def plainly_beats(ups, row, other):
    signed = [(v, w) if up else (-v, -w) for up, v, w in zip(ups, row, other)]
    return all(v >= w for v, w in signed) and any(v > w for v, w in signed)


def plain_layers(ups, rows):
    """The layers by their words alone: each is the items that none of those left beats."""
    left = set(range(len(rows)))
    layers = []
    while left:
        layer = {
            i for i in left if not any(plainly_beats(ups, rows[j], rows[i]) for j in left)
        }
        layers.append(sorted(layer))
        left -= layer
    return layers


def plain_beaters(ups, rows, i):
    return [j for j, row in enumerate(rows) if plainly_beats(ups, row, rows[i])]


def plain_beaten(ups, rows, i):
    return [j for j, row in enumerate(rows) if plainly_beats(ups, rows[i], row)]


def plain_reasons(ups, rows, i):
    among = plain_beaters(ups, rows, i)
    return [j for j in among if not any(plainly_beats(ups, rows[k], rows[j]) for k in among)]


def unbeaten_with(ups, rows, i, m, much):
    """Whether nothing would beat item i if its value by measure m were better by so much."""
    row = list(rows[i])
    row[m] += much if ups[m] else -much
    return not any(plainly_beats(ups, rows[j], row) for j in range(len(rows)) if j != i)


def plain_gain(ups, rows, i, m):
    much = 0
    while not unbeaten_with(ups, rows, i, m, much):
        much += 1
    return much


def plain_layer(ups, rows, i):
    return [i in layer for layer in plain_layers(ups, rows)].index(True) + 1


def counted(numbers):
    return [len(numbers)] + list(numbers)


def counted_layers(layers):
    return [len(layers)] + [n for layer in layers for n in counted(layer)]


def stepped(seed):
    """An endless row of numbers from 0 to 32767, always the same for one seed."""
    state = seed
    while True:
        state = (state * 1103515245 + 12345) % 2147483648
        yield state // 65536


def lists_of(spreads, seed):
    """For each spread, lists of 0 to 16 items by 1 to 4 measures with so many different values."""
    steps = stepped(seed)
    for size in range(17):
        for width in range(1, 5):
            for spread in spreads:
                ups = [next(steps) % 2 == 0 for _ in range(width)]
                rows = [
                    [next(steps) % spread - spread // 2 for _ in range(width)]
                    for _ in range(size)
                ]
                yield ups, rows


def many_lists():
    """Lists with few and with many different values."""
    return lists_of((2, 4, 2001), 7)
