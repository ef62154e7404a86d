"""What prices show: [0.2], [2.2]."""

import unittest

from samples import BAD_VALUES, FAR, GREATEST, LEAST, all_cuttings, least_cuttings, model_room, some_lists
from tightrows.cutting import cuts, prices, shows
from tightrows.errors import BadValue

TWO_BLOCKS = [0, 0, 0, 0, 0, 0, LEAST, GREATEST]
WITH_A_TIE = [1829214, None, None, 100]


def columns():
    return [TWO_BLOCKS, WITH_A_TIE, [5], [None, None]] + some_lists(31, [1, 2, 3, 5, 7, 8, 9] * 4 + [20, 40, 64])


def model_shows(values, ends, some):
    """The words of [2.2], one by one."""
    size = len(values)
    if len(some) != size + 1 or some[0] != 0:
        return False
    if any(after <= ahead for ahead, after in zip([0] + ends, ends)) or ([0] + ends)[-1] != size:
        return False
    if any(some[end] != some[begin] + model_room(values[begin:end]) for begin, end in zip([0] + ends, ends)):
        return False
    pairs = [(begin, end) for end in range(size + 1) for begin in range(end)]
    return all(some[end] <= some[begin] + model_room(values[begin:end]) for begin, end in pairs)


class Shown(unittest.TestCase):
    def test_what_prices_and_cuts_tell(self):
        for column in columns():
            self.assertIs(shows(column, cuts(column), prices(column)), True)

    def test_no_values(self):
        self.assertIs(shows([], [], [0]), True)
        self.assertIs(shows([], [], []), False)
        self.assertIs(shows([], [], [1]), False)
        self.assertIs(shows([], [], [-1]), False)
        self.assertIs(shows([], [], [0, 0]), False)
        self.assertIs(shows([], [0], [0]), False)
        self.assertIs(shows([], [1], [0]), False)
        self.assertIs(shows([], [-1], [0]), False)

    def test_by_hand(self):
        self.assertIs(shows([5, 6], [2], [0, 35, 42]), True)
        self.assertIs(shows([5, 6], [1, 2], [0, 35, 42]), False)
        self.assertIs(shows([5, 6], [1, 2], [0, 35, 70]), False)
        self.assertIs(shows([5, 6], [2], [0, 35, 41]), False)
        self.assertIs(shows([5, 6], [2], [0, 36, 42]), False)

    def test_each_cutting_with_the_least_room_and_no_other(self):
        for column in [column for column in columns() if len(column) < 9]:
            found = prices(column)
            least = least_cuttings(column)
            for needs, ends in all_cuttings(column):
                self.assertIs(shows(column, ends, found), ends in least)
        self.assertIs(shows(WITH_A_TIE, [1, 4], prices(WITH_A_TIE)), True)
        self.assertIs(shows(WITH_A_TIE, [3, 4], prices(WITH_A_TIE)), True)


class OtherPrices(unittest.TestCase):
    def changed(self, column, by):
        told = prices(column)
        for place in range(len(told)):
            yield place, told[:place] + [told[place] + by] + told[place + 1:]

    def test_a_price_that_is_more(self):
        for column in columns():
            ends = cuts(column)
            for by in (1, 35, FAR - 10000):
                for place, some in self.changed(column, by):
                    self.assertIs(shows(column, ends, some), False)

    def test_a_price_of_an_end_that_is_less(self):
        for column in columns():
            ends = cuts(column)
            for by in (-1, -35, -FAR + 10000):
                for place, some in self.changed(column, by):
                    if place in [0] + ends:
                        self.assertIs(shows(column, ends, some), False)

    def test_a_price_elsewhere_that_is_less(self):
        # Nothing in [2.2] refuses it as long as no later price becomes too much.
        self.assertIs(shows([5, 6], [2], [0, 34, 42]), True)
        self.assertIs(shows([5, 6], [2], [0, 7, 42]), True)
        self.assertIs(shows([5, 6], [2], [0, 6, 42]), False)
        self.assertIs(shows([5, 6], [2], [0, -FAR, 42]), False)
        for column in [column for column in columns() if len(column) < 9]:
            ends = cuts(column)
            for by in (-1, -5, -20, -35, -60):
                for place, some in self.changed(column, by):
                    self.assertIs(shows(column, ends, some), model_shows(column, ends, some))

    def test_a_price_left_out_or_put_in(self):
        for column in columns():
            ends = cuts(column)
            told = prices(column)
            for place in range(len(told)):
                self.assertIs(shows(column, ends, told[:place] + told[place + 1:]), False)
                self.assertIs(shows(column, ends, told[:place] + [told[place]] + told[place:]), False)
            self.assertIs(shows(column, ends, told + [told[-1] + 35]), False)
            self.assertIs(shows(column, ends, []), False)

    def test_all_prices_moved(self):
        for column in columns():
            for by in (1, -1, FAR - 100000):
                self.assertIs(shows(column, cuts(column), [price + by for price in prices(column)]), False)

    def test_prices_of_other_values(self):
        self.assertIs(shows(TWO_BLOCKS, cuts(TWO_BLOCKS), prices([0] * 8)), False)

    def test_prices_that_are_too_small_for_any_cutting(self):
        self.assertIs(shows([5, 6], [2], [0, 0, 0]), False)
        self.assertIs(shows([5, 6], [1, 2], [0, 0, 0]), False)


class OtherEnds(unittest.TestCase):
    def refuse(self, column, ends):
        self.assertIs(shows(column, ends, prices(column)), False)

    def test_one_end_changed(self):
        for end in (-1, 0, 1, 2, 3, 4, 5, 7, 8, 9, 1000, FAR, -FAR):
            self.refuse(TWO_BLOCKS, [end, 8])
        for end in (-1, 0, 1, 6, 7, 9, 64, FAR, -FAR):
            self.refuse(TWO_BLOCKS, [6, end])

    def test_an_end_left_out_or_put_in(self):
        self.refuse(TWO_BLOCKS, [8])
        self.refuse(TWO_BLOCKS, [6])
        self.refuse(TWO_BLOCKS, [])
        for ends in ([0, 6, 8], [-2, 6, 8], [3, 6, 8], [6, 7, 8], [6, 8, 9], [6, 8, 0], [6, 8, -1], [6, 8, FAR]):
            self.refuse(TWO_BLOCKS, ends)

    def test_ends_that_do_not_rise(self):
        for ends in ([8, 6], [6, 6, 8], [6, 8, 8], [6, 8, 6, 8], [8, 8], [8, 6, 8]):
            self.refuse(TWO_BLOCKS, ends)

    def test_ends_that_count_from_the_last(self):
        self.refuse(TWO_BLOCKS, [-2, 8])
        self.refuse(TWO_BLOCKS, [-3, -1])
        self.refuse([5], [-1])

    def test_ends_of_one_value(self):
        self.assertIs(shows([5], [1], [0, 35]), True)
        for ends in ([], [0], [2], [0, 1], [1, 1], [1, 2]):
            self.refuse([5], ends)


class Refused(unittest.TestCase):
    def test_values_that_are_none(self):
        for bad in BAD_VALUES:
            self.assertRaises(BadValue, shows, [bad], [1], [0, 35])
            self.assertRaises(BadValue, shows, [0, bad], [], [])
            self.assertRaises(BadValue, shows, [bad], [FAR], [FAR])

    def test_too_many(self):
        for size in (65, 100, 101):
            some = [0] + [35] + [40] * (size - 1)
            self.assertRaises(BadValue, shows, [0] * size, [size], some)
            self.assertRaises(BadValue, shows, [0] * size, [], [])

    def test_64_are_good(self):
        self.assertIs(shows([0] * 64, [64], [0, 35] + [40] * 63), True)


if __name__ == "__main__":
    unittest.main()
