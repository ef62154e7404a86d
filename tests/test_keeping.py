"""Nothing that is handed in is changed or kept, and lists that are told are new ones: [0.1]."""

import unittest

from samples import GREATEST, KINDS, LEAST
from tightrows.cutting import cuts, prices, shows, tight
from tightrows.errors import RowsError
from tightrows.packings import best_kind, packed, room, unpacked

GOOD = [7, 7, None, 8, LEAST, GREATEST, 7, 7, 7]
BAD = [7, GREATEST + 1, None]


class HandedIn(unittest.TestCase):
    def call(self, asked, *handed):
        copies = [list(each) if isinstance(each, list) else each for each in handed]
        try:
            asked(*handed)
        except RowsError:
            pass
        self.assertEqual(list(handed), copies)

    def test_unchanged(self):
        for values in (GOOD, BAD, [], [0] * 101, [1, 2, 3], [None]):
            for kind in KINDS + ("other",):
                self.call(room, kind, list(values))
                self.call(packed, kind, list(values))
            for asked in (best_kind, prices, cuts, tight):
                self.call(asked, list(values))
            self.call(shows, list(values), [len(values)], [0])

    def test_ends_and_prices_unchanged(self):
        for ends, some in ((cuts(GOOD), prices(GOOD)), ([9, 3], [0] * 10), ([], []), ([1, 9], prices(GOOD))):
            self.call(shows, list(GOOD), ends, some)

    def test_not_kept(self):
        values = list(GOOD)
        bits = tight(values)
        ends = cuts(values)
        values[0] = None
        values.append(3)
        self.assertEqual(tight(GOOD), bits)
        self.assertEqual(cuts(GOOD), ends)


class Told(unittest.TestCase):
    def test_prices_and_cuts_are_new(self):
        for asked in (prices, cuts):
            for values in (GOOD, [], [4]):
                told = asked(values)
                copy = list(told)
                told.append(99)
                told[0] = 98
                self.assertEqual(asked(values), copy)

    def test_unpacked_is_new(self):
        bits = tight(GOOD)
        told = unpacked(bits)
        copy = [(kind, list(values)) for kind, values in told]
        for kind, values in told:
            values.append(99)
            values[0] = 98
        told.append("more")
        self.assertEqual(unpacked(bits), copy)

    def test_like_blocks_share_no_list(self):
        told = unpacked(packed("plain", [1]) * 2)
        told[0][1].append(2)
        self.assertEqual(told[1], ("plain", [1]))

    def test_asked_twice_it_is_the_same(self):
        for asked in (prices, cuts, tight, best_kind):
            self.assertEqual(asked(GOOD), asked(GOOD))


if __name__ == "__main__":
    unittest.main()
