"""Blocks packed: [0.3], [1.1], [1.2]."""

import unittest

from samples import (
    BAD_VALUES, FAR, FIVE, GREATEST, HIGHEST, KINDS, LEAST, LOWEST, NINE, NONE, ONE, SEVEN, TEN, THREE, ZERO,
    bits, model_packed, some_blocks,
)
from tightrows.errors import BadValue, NoPacking
from tightrows.packings import best_kind, packed, room

# The bits themselves, by hand from [1.1].
BY_HAND = (
    ("plain", [0], "000 00000000" + ZERO),
    ("plain", [0, None, 1], "000 00000010 001111010000100100000001 000000000000000000000000 001111010000100100000010"),
    ("plain", [LEAST, GREATEST], "000 00000001 000000000000000000000001 011110100001001000000001"),
    ("plain", [None] * 100, "000 01100011" + NONE * 100),
    ("runs", [5], "001 00000000 00000000" + FIVE + "00000000"),
    ("runs", [7, 7, 7, None, None, 7],
     "001 00000101 00000010" + SEVEN + "00000010" + NONE + "00000001" + SEVEN + "00000000"),
    ("runs", [None] * 100, "001 01100011 00000000" + NONE + "01100011"),
    ("runs", [0, None] * 50, "001 01100011 01100011" + (ZERO + "00000000" + NONE + "00000000") * 50),
    ("book", [3, 3], "010 00000001 000000" + THREE),
    ("book", [None, None, None], "010 00000010 000000" + NONE),
    ("book", [5, None, 5, 9, 5], "010 00000100 000010" + FIVE + NONE + NINE + "00 01 00 10 00"),
    ("book", [1, 0], "010 00000001 000001" + ONE + ZERO + "0 1"),
    ("base", [10, None, 12, 10], "011 00000011" + TEN + "00010 01 00 11 01"),
    ("base", [12, 11, 10], "011 00000010" + TEN + "00010 11 10 01"),
    ("base", [5, 5], "011 00000001" + FIVE + "00001 1 1"),
    ("base", [None, None], "011 00000001" + ZERO + "00000"),
    ("base", [LEAST, GREATEST, None],
     "011 00000010" + LOWEST + "10111 00000000000000000000001 11110100001001000000001 00000000000000000000000"),
    ("steps", [5], "100 00000000" + FIVE + "00000"),
    ("steps", [5, 5, 5], "100 00000010" + FIVE + "00000"),
    ("steps", [5, 6, 4, 4], "100 00000011" + FIVE + "00010 10 11 00"),
    ("steps", [1, 0], "100 00000001" + ONE + "00001 1"),
    ("steps", [LEAST, GREATEST, LEAST],
     "100 00000010" + LOWEST + "11000 111101000010010000000000 111101000010001111111111"),
    ("steps", [GREATEST] * 2, "100 00000001" + HIGHEST + "00000"),
)

UNLIKE_64 = list(range(64))
UNLIKE_65 = list(range(65))


class ByHand(unittest.TestCase):
    def test_the_bits_of_each_kind(self):
        for kind, values, told in BY_HAND:
            with self.subTest(kind=kind, values=values):
                self.assertEqual(packed(kind, values), bits(told))

    def test_room_is_how_many_bits_there_are(self):
        for kind, values, told in BY_HAND:
            with self.subTest(kind=kind, values=values):
                self.assertEqual(room(kind, values), len(bits(told)))

    def test_a_full_book(self):
        told = packed("book", UNLIKE_64)
        self.assertEqual(told[:17], bits("010 00111111 111111"))
        self.assertEqual(told[17:17 + 24 * 64], "".join(packed("plain", [value])[11:] for value in UNLIKE_64))
        self.assertEqual(told[17 + 24 * 64:], "".join(format(place, "06b") for place in range(64)))
        self.assertEqual(room("book", UNLIKE_64), 17 + 24 * 64 + 6 * 64)

    def test_a_book_of_65_can_not_be(self):
        for values in (UNLIKE_65, [None] + UNLIKE_64, UNLIKE_65 + [0] * 35):
            self.assertIsNone(room("book", values))
            self.assertRaises(NoPacking, packed, "book", values)

    def test_a_long_block_of_a_full_book(self):
        values = UNLIKE_64 + [3] * 36
        self.assertEqual(room("book", values), 17 + 24 * 64 + 6 * 100)

    def test_steps_with_none_can_not_be(self):
        for values in ([None], [None, 1], [1, None], [1, None, 2], [None] * 100):
            self.assertIsNone(room("steps", values))
            self.assertRaises(NoPacking, packed, "steps", values)


class AgainstTheModel(unittest.TestCase):
    def test_packed_and_room(self):
        for values in some_blocks():
            for kind in KINDS:
                with self.subTest(kind=kind, values=values):
                    self.hold(kind, values, model_packed(kind, values))

    def hold(self, kind, values, told):
        if told is None:
            self.assertIsNone(room(kind, values))
            self.assertRaises(NoPacking, packed, kind, values)
        else:
            self.assertEqual(room(kind, values), len(told))
            self.assertEqual(packed(kind, values), told)

    def test_best_kind(self):
        for values in some_blocks():
            rooms = {kind: model_packed(kind, values) for kind in KINDS}
            rooms = {kind: len(told) for kind, told in rooms.items() if told is not None}
            with self.subTest(values=values):
                self.assertEqual(best_kind(values), min(rooms, key=rooms.get))


class BestKind(unittest.TestCase):
    def test_each_kind_is_the_best_for_some_block(self):
        self.assertEqual(best_kind([8]), "plain")
        self.assertEqual(best_kind([0] * 50 + [GREATEST] * 50), "runs")
        self.assertEqual(best_kind([0, GREATEST] * 4), "book")
        self.assertEqual(best_kind([0, None, 1, 2, 3, 1]), "base")
        self.assertEqual(best_kind([0, 1, 2, 3, 4, 5]), "steps")
        self.assertEqual(best_kind([None, None]), "base")

    def check_tie(self, values, alike, best):
        least = room(best, values)
        rooms = {kind: room(kind, values) for kind in KINDS}
        self.assertEqual([kind for kind in KINDS if rooms[kind] == least], alike)
        self.assertEqual(best_kind(values), best)

    def test_of_several_the_first(self):
        wide = [LEAST + 1, GREATEST] + [None] * 2 + [LEAST + 300000 * step for step in range(1, 26)]
        self.check_tie(wide, ["plain", "base"], "plain")
        self.check_tie([0, 131072], ["plain", "steps"], "plain")
        self.check_tie([None, LEAST, GREATEST, 1, 2, None], ["plain", "book"], "plain")
        self.check_tie([0] * 9 + [GREATEST] * 9, ["runs", "book"], "runs")
        self.check_tie([None] * 20 + [5] * 23, ["runs", "base"], "runs")
        self.check_tie([1] * 20 + [0] * 24, ["runs", "steps"], "runs")
        self.check_tie([None, 0, 300, None, 0, 300, 0], ["book", "base"], "book")
        self.check_tie([-70000, 1000, 131072, -70000], ["book", "steps"], "book")
        self.check_tie([0, 2, 0], ["base", "steps"], "base")


class Refused(unittest.TestCase):
    def refuse(self, values):
        for kind in KINDS + ("other", "", "Plain", "plain "):
            self.assertRaises(BadValue, room, kind, values)
            self.assertRaises(BadValue, packed, kind, values)
        self.assertRaises(BadValue, best_kind, values)

    def test_values_that_are_none(self):
        for bad in BAD_VALUES:
            for values in ([bad], [0, bad], [bad, None], [0] * 50 + [bad] + [0] * 49):
                self.refuse(values)

    def test_too_few_and_too_many(self):
        self.refuse([])
        self.refuse([0] * 101)
        self.refuse([None] * 101)
        self.refuse([FAR] * 101)
        self.refuse([1] * 256)
        self.refuse([1] * 257)

    def test_the_edges_are_good(self):
        for values in ([LEAST], [GREATEST], [None], [LEAST] * 100, [GREATEST] * 100, [None] * 100):
            for kind in ("plain", "runs", "book", "base"):
                self.assertEqual(room(kind, values), len(packed(kind, values)))
            self.assertIn(best_kind(values), KINDS)

    def test_another_kind(self):
        for kind in ("other", "", "Plain", "plain ", "step", "0", "plain,runs"):
            for values in ([0], [None], [1] * 100, UNLIKE_65):
                self.assertRaises(NoPacking, room, kind, values)
                self.assertRaises(NoPacking, packed, kind, values)


if __name__ == "__main__":
    unittest.main()
