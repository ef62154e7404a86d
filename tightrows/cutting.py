"""Columns cut into blocks, so that they need the fewest bits."""

from tightrows.errors import BadValue
from tightrows.packings import Tally
from tightrows.packings import are_values
from tightrows.packings import best_kind
from tightrows.packings import packed

MOST_IN_COLUMN = 64


def check_column(values):
    if len(values) > MOST_IN_COLUMN or not are_values(values):
        raise BadValue("a column has up to 64 values")


def rooms_from(values, begin):
    tally = Tally()
    rooms = []
    for value in values[begin:]:
        tally.add(value)
        rooms.append(tally.least_room())
    return rooms


def block_rooms(values):
    return [rooms_from(values, begin) for begin in range(len(values))]


def room_between(rooms, begin, end):
    return rooms[begin][end - begin - 1]


def least_prices(rooms):
    found = [0]
    for end in range(1, len(rooms) + 1):
        found.append(min([found[begin] + room_between(rooms, begin, end) for begin in range(end)]))
    return found


def longest_begin(rooms, found, end):
    # The least price of an end is met from one of its beginnings, so the walk comes to a stop.
    begin = 0
    while found[begin] + room_between(rooms, begin, end) != found[end]:
        begin += 1
    return begin


def prices(values):
    check_column(values)
    return least_prices(block_rooms(values))


def cuts(values):
    check_column(values)
    rooms = block_rooms(values)
    found = least_prices(rooms)
    ends = []
    end = len(values)
    while end > 0:
        ends.append(end)
        end = longest_begin(rooms, found, end)
    return list(reversed(ends))


def blocks_between(values, ends):
    return [values[begin:end] for begin, end in zip([0] + ends, ends)]


def tight(values):
    return "".join([packed(best_kind(block), block) for block in blocks_between(values, cuts(values))])


def is_cutting(ends, size):
    begin = 0
    for end in ends:
        if end <= begin:
            return False
        begin = end
    return begin == size


def meets_each_block(rooms, ends, some):
    return all([
        some[end] == some[begin] + room_between(rooms, begin, end)
        for begin, end in zip([0] + ends, ends)
    ])


def has_no_price_above(rooms, some):
    for end in range(1, len(some)):
        if some[end] > min([some[begin] + room_between(rooms, begin, end) for begin in range(end)]):
            return False
    return True


def shows(values, ends, some):
    check_column(values)
    if len(some) != len(values) + 1 or some[0] != 0 or not is_cutting(ends, len(values)):
        return False
    rooms = block_rooms(values)
    return meets_each_block(rooms, ends, some) and has_no_price_above(rooms, some)
