"""What several tests need: bits as [1.1] tells them, written out anew, and some blocks and columns."""

import itertools
import random

KINDS = ("plain", "runs", "book", "base", "steps")
LEAST = -4000000
GREATEST = 4000000
FAR = 999999999999999

BAD_VALUES = (LEAST - 1, GREATEST + 1, -FAR, FAR, True, False)

# Values as in plain, by hand.
NONE = "000000000000000000000000"
LOWEST = "000000000000000000000001"
ZERO = "001111010000100100000001"
ONE = "001111010000100100000010"
THREE = "001111010000100100000100"
FIVE = "001111010000100100000110"
SEVEN = "001111010000100100001000"
NINE = "001111010000100100001010"
TEN = "001111010000100100001011"
HIGHEST = "011110100001001000000001"
TOO_HIGH = "011110100001001000000010"


def bits(text):
    return "".join(text.split())


def number(told, width):
    return format(told, "b").zfill(width) if width else ""


def plain(value):
    return number(0 if value is None else value + 4000001, 24)


def width_of(numbers):
    greatest = max(numbers, default=0)
    return len(format(greatest, "b")) if greatest else 0


def body_plain(values):
    return "".join(plain(value) for value in values)


def body_runs(values):
    runs = [(value, len(list(alike))) for value, alike in itertools.groupby(values)]
    return number(len(runs) - 1, 8) + "".join(plain(value) + number(times - 1, 8) for value, times in runs)


def body_book(values):
    book = list(dict.fromkeys(values))
    if len(book) > 64:
        return None
    places = [book.index(value) for value in values]
    width = width_of(places)
    return number(len(book) - 1, 6) + body_plain(book) + "".join(number(place, width) for place in places)


def body_base(values):
    least = min((value for value in values if value is not None), default=0)
    above = [0 if value is None else value - least + 1 for value in values]
    width = width_of(above)
    return plain(least) + number(width, 5) + "".join(number(each, width) for each in above)


def body_steps(values):
    if None in values:
        return None
    steps = [after - ahead for ahead, after in zip(values, values[1:])]
    folded = [step * 2 if step >= 0 else abs(step) * 2 - 1 for step in steps]
    width = width_of(folded)
    return plain(values[0]) + number(width, 5) + "".join(number(each, width) for each in folded)


def model_packed(kind, values):
    bodies = (body_plain, body_runs, body_book, body_base, body_steps)
    body = bodies[KINDS.index(kind)](values)
    if body is None:
        return None
    return number(KINDS.index(kind), 3) + number(len(values) - 1, 8) + body


def model_room(values):
    return min(len(told) for told in (model_packed(kind, values) for kind in KINDS) if told is not None)


def mixed(source, length):
    pool = [source.choice((None, 0, 1, -1, 2, 3, 9, 100, 5000, LEAST, GREATEST)) for _ in range(source.randint(1, 6))]
    pool.append(source.randint(LEAST, GREATEST))
    values = []
    while len(values) < length:
        values.extend([source.choice(pool)] * source.choice((1, 1, 2, 3, 5)))
    return values[:length]


def some_lists(seed, lengths):
    source = random.Random(seed)
    return [mixed(source, length) for length in lengths]


def some_blocks():
    blocks = [
        [None], [0], [LEAST], [GREATEST], [None, None], [None] * 100, [0] * 100, [LEAST, GREATEST], [GREATEST, LEAST],
        [None, LEAST, GREATEST], list(range(100)), list(range(99, -1, -1)), list(range(64)), list(range(65)),
        [None] + list(range(63)), [None] + list(range(64)), [1, None, 1, 2], [5, 5, 5, 9, 9, 5], [0, None] * 50,
        [LEAST + 80000 * step for step in range(100)], [step * step for step in range(80)],
    ]
    return blocks + some_lists(11, list(range(1, 41)) + [50, 63, 64, 65, 99, 100])


def model_prices(values):
    found = [0]
    for end in range(1, len(values) + 1):
        found.append(min(found[begin] + model_room(values[begin:end]) for begin in range(end)))
    return found


def all_cuttings(values):
    """Every cutting of a short column that has values, with its room."""
    size = len(values)
    rooms = {
        (begin, end): model_room(values[begin:end])
        for begin in range(size) for end in range(begin + 1, size + 1)
    }
    for many in range(size):
        for inner in itertools.combinations(range(1, size), many):
            ends = list(inner) + [size]
            yield sum(rooms[pair] for pair in zip([0] + ends, ends)), ends


def least_cuttings(values):
    told = list(all_cuttings(values))
    least = min(needs for needs, ends in told)
    return [ends for needs, ends in told if needs == least]


def lengths_from_last(ends):
    return [end - begin for begin, end in zip([0] + ends, ends)][::-1]


# Questions: what they answer, by the words of [3.1] and [4.3], value by value.

def model_answers(question, value):
    word, parts = question[0], question[1:]
    if word == "not":
        return not model_answers(parts[0], value)
    if word == "both":
        return model_answers(parts[0], value) and model_answers(parts[1], value)
    if word == "either":
        return model_answers(parts[0], value) or model_answers(parts[1], value)
    if word in ("all", "none"):
        return word == "all" or value is None
    if value is None:
        return False
    tests = {"is": lambda v: value == v, "below": lambda v: value < v, "above": lambda v: value > v,
             "among": lambda v: any(value == each for each in v)}
    return tests[word](*parts)


def model_where(where, row):
    """Whether a row, a dict of its values by the columns' names, answers."""
    word, parts = where[0], where[1:]
    if word == "not":
        return not model_where(parts[0], row)
    if word == "both":
        return model_where(parts[0], row) and model_where(parts[1], row)
    if word == "either":
        return model_where(parts[0], row) or model_where(parts[1], row)
    return word == "any" or model_answers(parts[1], row[parts[0]])


def within(inner, times, word="not", beside=("all",), place=1):
    """A question with so many others around it: in the first or second part of each "both" or "either"."""
    for _ in range(times):
        inner = ("not", inner) if word == "not" else (word, inner, beside) if place == 1 else (word, beside, inner)
    return inner


def simple_questions(things):
    """Of numbers or of words, each kind of question that has no other in it."""
    told = [("all",), ("none",), ("among", []), ("among", list(things)), ("among", list(things[:2]) * 2)]
    return told + [(word, thing) for thing in things for word in ("is", "below", "above")]


def some_questions(seed, things, many):
    source = random.Random(seed)
    simple = simple_questions(things)
    told = list(simple)
    while len(told) < len(simple) + many:
        told.append(some_joined(source, simple, source.randint(2, 6)))
    return told


def some_joined(source, simple, depth):
    if depth == 1 or source.random() < 0.15:
        return source.choice(simple)
    word = source.choice(("not", "both", "either"))
    return (word,) + tuple(some_joined(source, simple, depth - 1) for _ in range(1 if word == "not" else 2))


def some_columns():
    """Columns whose blocks are of each of the five kinds, and of several kinds."""
    wide = [LEAST, GREATEST, -3000001, 2999999, 17, -999983]
    return [
        [], [0], [None], [GREATEST], [LEAST, GREATEST], wide, [None] * 64, [0] * 64, list(range(64)),
        [LEAST] * 7 + [GREATEST] * 8 + [17] * 6, [LEAST, None, GREATEST] * 9, [1, None, 3, 2, None, 1, 4, 7] * 3,
        [5, 6, 7, 8], [None] * 9 + wide + list(range(20)) + [3, None, 1] * 6,
        wide[:4] + [LEAST] * 6 + [5] * 9 + [GREATEST] * 7 + [1, 2], [0] * 20 + wide + [None] * 20 + wide + [7] * 12,
    ] + some_lists(41, [2, 3, 5, 8, 13, 21, 34, 55, 64])


BAD_QUESTIONS = (
    (), ("",), ("every",), ("All",), ("isnt", 3), ("in", 3), ("any",), ("and", ("all",), ("all",)),
    ("all", 1), ("none", None), ("all", ("all",)), ("is",), ("is", 1, 2), ("below",), ("below", 1, 2), ("above",),
    ("above", 1, 2), ("among",), ("among", [1], [2]), ("among", [1], 2), ("not",), ("not", ("all",), ("all",)),
    ("both",), ("both", ("all",)), ("both", ("all",), ("all",), ("all",)), ("either",), ("either", ("all",)),
    ("either", ("all",), ("all",), ("all",)), ("is", None), ("is", True), ("is", "a"), ("below", None),
    ("above", "a"), ("among", [1, None]), ("among", ["a"]), ("among", [False]),
)


# Tables by the words of [4.1] to [4.3], row by row.

class ModelTable:
    def __init__(self, columns):
        self.names = [name for name, kind in columns]
        self.came = {name: [] for name, kind in columns if kind == "word"}
        self.rows = {}
        self.next = 0

    def put(self, values):
        for name, value in zip(self.names, values):
            if name in self.came and value is not None and value not in self.came[name]:
                self.came[name].append(value)
        self.rows[self.next] = dict(zip(self.names, values))
        self.next += 1
        return self.next - 1

    def kept(self, name):
        values = [row[name] for row in self.rows.values()]
        if name not in self.came:
            return values
        return [None if value is None else self.came[name].index(value) for value in values]

    def where(self, where):
        return [number for number, row in self.rows.items() if model_where(where, row)]

    def sorted_by(self, name, falling):
        by_value = {}
        for number, row in self.rows.items():
            by_value.setdefault(row[name], []).append(number)
        without = by_value.pop(None, [])
        rising = [by_value[value] for value in sorted(by_value)]
        told = rising[::-1] + [without] if falling else [without] + rising
        return [number for alike in told for number in alike]

    def groups(self, by, where, of):
        rows = [self.rows[number] for number in self.where(where)]
        values = {row[by] for row in rows}
        told = []
        for value in [None] * (None in values) + sorted(values - {None}):
            alike = [row[of] for row in rows if row[by] == value]
            told.append((value, len(alike), sum(each or 0 for each in alike)))
        return told

    def joined(self, name, other, theirs):
        return [
            (mine, yours) for mine in self.rows for yours in other.rows
            if self.rows[mine][name] is not None and self.rows[mine][name] == other.rows[yours][theirs]
        ]
