"""What several tests need: bits as [1.1] tells them, written out anew, and some blocks and columns."""

import itertools
import random

KINDS = ("plain", "runs", "book", "base", "steps")
LEAST = -4000000
GREATEST = 4000000
FAR = 999999999999999

BAD_VALUES = (LEAST - 1, GREATEST + 1, -FAR, FAR, True, False)

# Values as in plain, by hand.
NONE = "000000000000000000000000"
LOWEST = "000000000000000000000001"
ZERO = "001111010000100100000001"
ONE = "001111010000100100000010"
THREE = "001111010000100100000100"
FIVE = "001111010000100100000110"
SEVEN = "001111010000100100001000"
NINE = "001111010000100100001010"
TEN = "001111010000100100001011"
HIGHEST = "011110100001001000000001"
TOO_HIGH = "011110100001001000000010"


def bits(text):
    return "".join(text.split())


def number(told, width):
    return format(told, "b").zfill(width) if width else ""


def plain(value):
    return number(0 if value is None else value + 4000001, 24)


def width_of(numbers):
    greatest = max(numbers, default=0)
    return len(format(greatest, "b")) if greatest else 0


def body_plain(values):
    return "".join(plain(value) for value in values)


def body_runs(values):
    runs = [(value, len(list(alike))) for value, alike in itertools.groupby(values)]
    return number(len(runs) - 1, 8) + "".join(plain(value) + number(times - 1, 8) for value, times in runs)


def body_book(values):
    book = list(dict.fromkeys(values))
    if len(book) > 64:
        return None
    places = [book.index(value) for value in values]
    width = width_of(places)
    return number(len(book) - 1, 6) + body_plain(book) + "".join(number(place, width) for place in places)


def body_base(values):
    least = min((value for value in values if value is not None), default=0)
    above = [0 if value is None else value - least + 1 for value in values]
    width = width_of(above)
    return plain(least) + number(width, 5) + "".join(number(each, width) for each in above)


def body_steps(values):
    if None in values:
        return None
    steps = [after - ahead for ahead, after in zip(values, values[1:])]
    folded = [step * 2 if step >= 0 else abs(step) * 2 - 1 for step in steps]
    width = width_of(folded)
    return plain(values[0]) + number(width, 5) + "".join(number(each, width) for each in folded)


def model_packed(kind, values):
    bodies = (body_plain, body_runs, body_book, body_base, body_steps)
    body = bodies[KINDS.index(kind)](values)
    if body is None:
        return None
    return number(KINDS.index(kind), 3) + number(len(values) - 1, 8) + body


def model_room(values):
    return min(len(told) for told in (model_packed(kind, values) for kind in KINDS) if told is not None)


def mixed(source, length):
    pool = [source.choice((None, 0, 1, -1, 2, 3, 9, 100, 5000, LEAST, GREATEST)) for _ in range(source.randint(1, 6))]
    pool.append(source.randint(LEAST, GREATEST))
    values = []
    while len(values) < length:
        values.extend([source.choice(pool)] * source.choice((1, 1, 2, 3, 5)))
    return values[:length]


def some_lists(seed, lengths):
    source = random.Random(seed)
    return [mixed(source, length) for length in lengths]


def some_blocks():
    blocks = [
        [None], [0], [LEAST], [GREATEST], [None, None], [None] * 100, [0] * 100, [LEAST, GREATEST], [GREATEST, LEAST],
        [None, LEAST, GREATEST], list(range(100)), list(range(99, -1, -1)), list(range(64)), list(range(65)),
        [None] + list(range(63)), [None] + list(range(64)), [1, None, 1, 2], [5, 5, 5, 9, 9, 5], [0, None] * 50,
        [LEAST + 80000 * step for step in range(100)], [step * step for step in range(80)],
    ]
    return blocks + some_lists(11, list(range(1, 41)) + [50, 63, 64, 65, 99, 100])


def model_prices(values):
    found = [0]
    for end in range(1, len(values) + 1):
        found.append(min(found[begin] + model_room(values[begin:end]) for begin in range(end)))
    return found


def all_cuttings(values):
    """Every cutting of a short column that has values, with its room."""
    size = len(values)
    rooms = {
        (begin, end): model_room(values[begin:end])
        for begin in range(size) for end in range(begin + 1, size + 1)
    }
    for many in range(size):
        for inner in itertools.combinations(range(1, size), many):
            ends = list(inner) + [size]
            yield sum(rooms[pair] for pair in zip([0] + ends, ends)), ends


def least_cuttings(values):
    told = list(all_cuttings(values))
    least = min(needs for needs, ends in told)
    return [ends for needs, ends in told if needs == least]


def lengths_from_last(ends):
    return [end - begin for begin, end in zip([0] + ends, ends)][::-1]
