"""Blocks of values, packed in one of five kinds, and read again."""

from tightrows.bits import Reader
from tightrows.bits import in_bits
from tightrows.bits import needed
from tightrows.errors import BadBits
from tightrows.errors import BadValue
from tightrows.errors import NoPacking

KINDS = ("plain", "runs", "book", "base", "steps")
FARTHEST = 4000000
# Added to a value, it leaves 0 free for None.
SHIFT = 4000001
MOST_IN_BLOCK = 100
MOST_IN_BOOK = 64

KIND_BITS = 3
LENGTH_BITS = 8
VALUE_BITS = 24
RUNS_BITS = 8
TIMES_BITS = 8
BOOK_BITS = 6
WIDTH_BITS = 5


def is_whole(thing):
    return isinstance(thing, int) and not isinstance(thing, bool)


def is_value(value):
    return value is None or (is_whole(value) and -FARTHEST <= value <= FARTHEST)


def are_values(values):
    return all([is_value(value) for value in values])


def is_block(values):
    return 1 <= len(values) <= MOST_IN_BLOCK and are_values(values)


def check_block(values):
    if not is_block(values):
        raise BadValue("a block has 1 to 100 values")


def check_kind(kind):
    if kind not in KINDS:
        raise NoPacking("there is no such kind")


def folded(step):
    # Steps up become the even numbers and steps down the odd ones, so that no sign needs a bit.
    return 2 * step if step >= 0 else -2 * step - 1


def unfolded(number):
    return number // 2 if number % 2 == 0 else -(number // 2) - 1


class Tally:
    # It grows value by value, so that all blocks with one beginning are measured in a single walk.
    def __init__(self):
        self.length = 0
        self.last = None
        self.runs = 0
        self.book = {}
        self.has_none = False
        self.least = None
        self.greatest = None
        self.widest = 0

    def add(self, value):
        if self.length == 0 or value != self.last:
            self.runs += 1
        self.book[value] = True
        if value is None:
            self.has_none = True
        else:
            self.add_number(value)
        self.last = value
        self.length += 1

    def add_number(self, number):
        if self.least is None or number < self.least:
            self.least = number
        if self.greatest is None or number > self.greatest:
            self.greatest = number
        if self.length > 0 and not self.has_none:
            self.widest = max(self.widest, folded(number - self.last))

    def book_room(self):
        entries = len(self.book)
        if entries > MOST_IN_BOOK:
            return None
        return BOOK_BITS + VALUE_BITS * entries + needed(entries - 1) * self.length

    def base_room(self):
        highest = 0 if self.least is None else self.greatest - self.least + 1
        return VALUE_BITS + WIDTH_BITS + needed(highest) * self.length

    def steps_room(self):
        if self.has_none:
            return None
        return VALUE_BITS + WIDTH_BITS + needed(self.widest) * (self.length - 1)

    def rooms(self):
        # In the order of KINDS.
        bodies = [
            VALUE_BITS * self.length,
            RUNS_BITS + (VALUE_BITS + TIMES_BITS) * self.runs,
            self.book_room(),
            self.base_room(),
            self.steps_room(),
        ]
        return [None if body is None else KIND_BITS + LENGTH_BITS + body for body in bodies]

    def least_room(self):
        return min([found for found in self.rooms() if found is not None])


def tally_of(values):
    tally = Tally()
    for value in values:
        tally.add(value)
    return tally


def room(kind, values):
    check_block(values)
    check_kind(kind)
    return tally_of(values).rooms()[KINDS.index(kind)]


def best_kind(values):
    check_block(values)
    tally = tally_of(values)
    return KINDS[tally.rooms().index(tally.least_room())]


def value_bits(value):
    return in_bits(0 if value is None else value + SHIFT, VALUE_BITS)


def plain_bits(values):
    return "".join([value_bits(value) for value in values])


def runs_of(values):
    runs = []
    for value in values:
        if runs and runs[-1][0] == value:
            runs[-1] = (value, runs[-1][1] + 1)
        else:
            runs.append((value, 1))
    return runs


def runs_bits(values):
    runs = runs_of(values)
    written = [value_bits(value) + in_bits(times - 1, TIMES_BITS) for value, times in runs]
    return in_bits(len(runs) - 1, RUNS_BITS) + "".join(written)


def book_bits(values):
    book = {}
    for value in values:
        book.setdefault(value, len(book))
    width = needed(len(book) - 1)
    numbers = [in_bits(book[value], width) for value in values]
    return in_bits(len(book) - 1, BOOK_BITS) + plain_bits(list(book)) + "".join(numbers)


def even_bits(numbers):
    width = needed(max(numbers, default=0))
    return in_bits(width, WIDTH_BITS) + "".join([in_bits(number, width) for number in numbers])


def base_bits(values):
    least = min([value for value in values if value is not None], default=0)
    return value_bits(least) + even_bits([0 if value is None else value - least + 1 for value in values])


def steps_bits(values):
    steps = [folded(value - ahead) for ahead, value in zip(values, values[1:])]
    return value_bits(values[0]) + even_bits(steps)


WRITERS = {"plain": plain_bits, "runs": runs_bits, "book": book_bits, "base": base_bits, "steps": steps_bits}


def packed(kind, values):
    if room(kind, values) is None:
        raise NoPacking("these values can not be of this kind")
    head = in_bits(KINDS.index(kind), KIND_BITS) + in_bits(len(values) - 1, LENGTH_BITS)
    return head + WRITERS[kind](values)


def read_value(reader):
    number = reader.take(VALUE_BITS)
    return None if number == 0 else number - SHIFT


def read_plain(reader, length):
    return [read_value(reader) for place in range(length)]


def read_runs(reader, length):
    # The length needs no heed here: the block's bits are held against it afterwards.
    values = []
    for place in range(reader.take(RUNS_BITS) + 1):
        value = read_value(reader)
        times = reader.take(TIMES_BITS) + 1
        values.extend([value] * times)
    return values


def read_book(reader, length):
    entries = reader.take(BOOK_BITS) + 1
    book = read_plain(reader, entries)
    width = needed(entries - 1)
    numbers = [reader.take(width) for place in range(length)]
    if max(numbers) >= entries:
        raise BadBits("a number that the book does not have")
    return [book[number] for number in numbers]


def read_base(reader, length):
    # Not read as a value: None can not be a base, and as a number it falls out of bounds by itself.
    least = reader.take(VALUE_BITS) - SHIFT
    width = reader.take(WIDTH_BITS)
    numbers = [reader.take(width) for place in range(length)]
    return [None if number == 0 else least + number - 1 for number in numbers]


def read_steps(reader, length):
    values = [reader.take(VALUE_BITS) - SHIFT]
    width = reader.take(WIDTH_BITS)
    for place in range(length - 1):
        values.append(values[-1] + unfolded(reader.take(width)))
    return values


READERS = {"plain": read_plain, "runs": read_runs, "book": read_book, "base": read_base, "steps": read_steps}


def read_block(reader):
    begin = reader.place
    number = reader.take(KIND_BITS)
    if number >= len(KINDS):
        raise BadBits("there is no such kind")
    kind = KINDS[number]
    length = reader.take(LENGTH_BITS) + 1
    values = READERS[kind](reader, length)
    # Many bits may tell the same values; only those that packing gives are good.
    if not is_block(values) or packed(kind, values) != reader.taken_since(begin):
        raise BadBits("not the bits of a block")
    return (kind, values)


def unpacked(bits):
    reader = Reader(bits)
    blocks = []
    while reader.has_more():
        blocks.append(read_block(reader))
    return blocks
