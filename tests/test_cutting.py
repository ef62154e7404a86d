"""Columns cut into blocks: [0.2], [2.1]."""

import unittest

from samples import (
    BAD_VALUES, FAR, GREATEST, LEAST, all_cuttings, least_cuttings, lengths_from_last, model_packed, model_prices,
    some_lists,
)
from tightrows.cutting import cuts, prices, tight
from tightrows.errors import BadValue
from tightrows.packings import best_kind, unpacked

# Columns of which several cuttings have the least room: those, and the one that is to be told.
TIES = (
    ([1829214, None, None, 100], [[1, 4], [3, 4]], [1, 4]),
    ([1798062, 1000000, 0, 4], [[4], [2, 4]], [4]),
    ([3, 3, 3, 100, 1000000], [[5], [3, 5], [4, 5]], [5]),
    ([3895943, None, None, 2, 1, 1, 1000000], [[1, 6, 7], [3, 6, 7]], [1, 6, 7]),
    ([1829214, None, None, 100, LEAST, LEAST, None], [[1, 4, 7], [3, 4, 7]], [1, 4, 7]),
    ([None, 5000, 5000, 5000, None, 4, None, -1339517], [[4, 7, 8], [5, 6, 8], [5, 7, 8]], [5, 6, 8]),
    ([None, -1000000, None, None, None, None, 2, None], [[2, 8], [3, 8], [4, 8], [5, 8], [6, 8]], [2, 8]),
)

WIDE = [LEAST, GREATEST, -3000001, 2999999, 17, -999983]


def short_columns():
    return [column for column, least, told in TIES] + some_lists(23, [1, 2, 3, 4, 5, 6, 7, 8, 9] * 12)


def long_columns():
    return [
        [0] * 64, [None] * 64, list(range(64)), WIDE * 10 + [None] * 4, [0] * 20 + WIDE + [None] * 20 + WIDE + [7] * 12,
        [LEAST] * 32 + [GREATEST] * 32, [step * step for step in range(40)] + [None] * 10 + [5, 9] * 7,
    ] + some_lists(29, [10, 17, 30, 45, 63, 64, 64])


class ByHand(unittest.TestCase):
    def test_no_values(self):
        self.assertEqual(prices([]), [0])
        self.assertEqual(cuts([]), [])
        self.assertEqual(tight([]), "")

    def test_one_value(self):
        for value in (0, None, LEAST, GREATEST):
            self.assertEqual(prices([value]), [0, 35])
            self.assertEqual(cuts([value]), [1])
            self.assertEqual(tight([value]), model_packed("plain", [value]))

    def test_one_block(self):
        # Plain for one, 11 + 24; then steps of 2, each in 2 bits, behind 11 + 24 + 5.
        self.assertEqual(prices([5, 6, 7, 8]), [0, 35, 42, 44, 46])
        self.assertEqual(cuts([5, 6, 7, 8]), [4])
        self.assertEqual(tight([5, 6, 7, 8]), model_packed("steps", [5, 6, 7, 8]))

    def test_two_blocks(self):
        column = [0, 0, 0, 0, 0, 0, LEAST, GREATEST]
        # Six like values as steps, 40, and two far apart in plain, 11 + 48.
        self.assertEqual(cuts(column), [6, 8])
        self.assertEqual(prices(column)[-1], 99)
        self.assertEqual(tight(column), model_packed("steps", [0] * 6) + model_packed("plain", [LEAST, GREATEST]))

    def test_of_several_the_last_block_is_the_longest(self):
        for column, least, told in TIES:
            with self.subTest(column=column):
                self.assertEqual(sorted(least_cuttings(column)), sorted(least))
                self.assertEqual(cuts(column), told)


class AgainstAllCuttings(unittest.TestCase):
    def test_prices(self):
        for column in short_columns():
            told = [0]
            for end in range(1, len(column) + 1):
                told.append(min(needs for needs, ends in all_cuttings(column[:end])))
            with self.subTest(column=column):
                self.assertEqual(prices(column), told)

    def test_cuts(self):
        for column in short_columns():
            with self.subTest(column=column):
                self.assertEqual(cuts(column), max(least_cuttings(column), key=lengths_from_last))


class LongColumns(unittest.TestCase):
    def test_prices(self):
        for column in long_columns():
            with self.subTest(column=column):
                self.assertEqual(prices(column), model_prices(column))

    def test_cuts_have_the_longest_blocks_from_the_last_on(self):
        for column in long_columns():
            found = model_prices(column)
            ends = cuts(column)
            with self.subTest(column=column):
                self.assertEqual(ends, sorted(set(ends)))
                self.assertEqual(ends[-1], len(column))
            for begin, end in zip([0] + ends, ends):
                ahead = [place for place in range(end) if found[place] + self.needs(column, place, end) == found[end]]
                self.assertEqual(begin, ahead[0])

    def needs(self, column, begin, end):
        block = column[begin:end]
        return len(model_packed(best_kind(block), block))


class Tight(unittest.TestCase):
    def test_as_many_bits_as_the_last_price(self):
        for column in short_columns() + long_columns():
            self.assertEqual(len(tight(column)), prices(column)[-1])

    def test_read_as_the_blocks_of_cuts(self):
        for column in short_columns() + long_columns():
            ends = cuts(column)
            blocks = [column[begin:end] for begin, end in zip([0] + ends, ends)]
            with self.subTest(column=column):
                self.assertEqual(unpacked(tight(column)), [(best_kind(block), block) for block in blocks])


class Refused(unittest.TestCase):
    def refuse(self, values):
        for asked in (prices, cuts, tight):
            self.assertRaises(BadValue, asked, values)

    def test_values_that_are_none(self):
        for bad in BAD_VALUES:
            for values in ([bad], [0, bad], [bad, None], [0] * 63 + [bad]):
                self.refuse(values)

    def test_too_many(self):
        self.refuse([0] * 65)
        self.refuse([None] * 65)
        self.refuse([FAR] * 65)
        self.refuse([0] * 100)
        self.refuse([0] * 101)

    def test_64_are_good(self):
        self.assertEqual(len(prices([0] * 64)), 65)
        self.assertEqual(cuts([0] * 64), [64])


if __name__ == "__main__":
    unittest.main()
