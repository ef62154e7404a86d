"""Bits read again, and only those that are packed so: [0.2], [1.3]."""

import random
import unittest

from samples import (
    FIVE, GREATEST, HIGHEST, KINDS, LEAST, LOWEST, NINE, NONE, ONE, SEVEN, TEN, THREE, TOO_HIGH, ZERO,
    bits, model_packed, some_blocks,
)
from tightrows.errors import BadBits
from tightrows.packings import unpacked

ALL_ONES = "1" * 24


def all_packed():
    told = [(kind, values, model_packed(kind, values)) for values in some_blocks() for kind in KINDS]
    return [(kind, values, text) for kind, values, text in told if text is not None]


def is_packed_so(text):
    """Whether the model packs what unpacked reads into just these bits; BadBits goes through."""
    return "".join(model_packed(kind, values) for kind, values in unpacked(text)) == text


class ReadAgain(unittest.TestCase):
    def test_no_bits_tell_no_blocks(self):
        self.assertEqual(unpacked(""), [])

    def test_one_block(self):
        for kind, values, text in all_packed():
            with self.subTest(kind=kind, values=values):
                self.assertEqual(unpacked(text), [(kind, values)])

    def test_blocks_one_behind_the_other(self):
        told = all_packed()
        random.Random(3).shuffle(told)
        for first in range(0, len(told), 7):
            some = told[first:first + 7]
            text = "".join(text for kind, values, text in some)
            self.assertEqual(unpacked(text), [(kind, values) for kind, values, text in some])

    def test_the_same_block_twice(self):
        text = bits("000 00000000" + FIVE)
        self.assertEqual(unpacked(text + text), [("plain", [5]), ("plain", [5])])

    def test_pairs_are_tuples_of_a_text_and_a_list(self):
        for pair in unpacked(bits("100 00000010" + FIVE + "00000" + "001 00000000 00000000" + NONE + "00000000")):
            self.assertIs(type(pair), tuple)
            self.assertIs(type(pair[0]), str)
            self.assertIs(type(pair[1]), list)


class CutOffOrTooMany(unittest.TestCase):
    def test_cut_off_anywhere(self):
        for kind, values, text in all_packed():
            places = range(1, len(text)) if len(text) < 200 else (1, 2, 3, 10, 11, 12, 50, len(text) - 1)
            for place in places:
                with self.subTest(kind=kind, values=values, place=place):
                    self.assertRaises(BadBits, unpacked, text[:place])

    def test_some_too_many(self):
        for kind, values, text in all_packed():
            for more in ("0", "1", "00", "000", "0000000", "0" * 11, "1" * 40):
                with self.subTest(kind=kind, values=values, more=more):
                    self.assertRaises(BadBits, unpacked, text + more)

    def test_a_good_block_ahead_of_a_bad_one(self):
        good = bits("000 00000000" + FIVE)
        for bad in (good[:-1], "111" + good[3:], bits("000 00000000" + TOO_HIGH)):
            self.assertRaises(BadBits, unpacked, good + bad)
            self.assertRaises(BadBits, unpacked, bad + good)


class OtherSigns(unittest.TestCase):
    def test_another_sign_anywhere(self):
        for kind in KINDS:
            text = model_packed(kind, [5, 6, 4, 4])
            for sign in " _-+2bxO~":
                for place in range(len(text)):
                    self.assertRaises(BadBits, unpacked, text[:place] + sign + text[place + 1:])
                for place in (0, 3, 11, len(text)):
                    self.assertRaises(BadBits, unpacked, text[:place] + sign + text[place:])

    def test_other_signs_alone(self):
        for text in (" ", "_", "2", "plain", "0b", "-1", "0 1"):
            self.assertRaises(BadBits, unpacked, text)


class Spoilt(unittest.TestCase):
    """Each pair: bits that are good, and the same with one field spoilt."""

    def check(self, good, *spoilt):
        self.assertTrue(is_packed_so(bits(good)))
        for bad in spoilt:
            with self.subTest(good=good, bad=bad):
                self.assertRaises(BadBits, unpacked, bits(bad))

    def test_no_such_kind(self):
        for number in ("101", "110", "111"):
            self.assertRaises(BadBits, unpacked, bits(number + "00000000" + FIVE))
            self.assertRaises(BadBits, unpacked, bits(number + "00000000" + FIVE + "00000"))
            self.assertRaises(BadBits, unpacked, bits(number + "00000000"))

    def test_too_many_values(self):
        self.check("000 01100011" + NONE * 100, "000 01100100" + NONE * 101, "000 11111111" + NONE * 256)
        self.check("001 01100011 00000000" + FIVE + "01100011",
                   "001 01100100 00000000" + FIVE + "01100100", "001 11111111 00000000" + FIVE + "11111111")
        self.check("010 01100011 000000" + FIVE, "010 01100100 000000" + FIVE, "010 11111111 000000" + FIVE)
        self.check("011 01100011" + ZERO + "00000", "011 01100100" + ZERO + "00000", "011 11111111" + ZERO + "00000")
        self.check("100 01100011" + FIVE + "00000", "100 01100100" + FIVE + "00000", "100 11111111" + FIVE + "00000")

    def test_another_number_of_values(self):
        self.check("000 00000001" + FIVE + NINE, "000 00000000" + FIVE + NINE, "000 00000010" + FIVE + NINE)
        self.check("010 00000001 000001" + FIVE + NINE + "0 1",
                   "010 00000000 000001" + FIVE + NINE + "0 1", "010 00000010 000001" + FIVE + NINE + "0 1")
        self.check("011 00000001" + FIVE + "00010 01 11",
                   "011 00000000" + FIVE + "00010 01 11", "011 00000010" + FIVE + "00010 01 11")
        self.check("100 00000001" + FIVE + "00010 10",
                   "100 00000000" + FIVE + "00010 10", "100 00000010" + FIVE + "00010 10")

    def test_plain_values_out_of_bounds(self):
        self.check("000 00000001" + HIGHEST + LOWEST, "000 00000001" + TOO_HIGH + LOWEST,
                   "000 00000001" + HIGHEST + ALL_ONES)

    def test_runs(self):
        head = "001 00000010"
        good = head + "00000001" + FIVE + "00000001" + NONE + "00000000"
        self.check(
            good,
            # Runs that could be one.
            head + "00000001" + FIVE + "00000001" + FIVE + "00000000",
            head + "00000010" + FIVE + "00000000" + FIVE + "00000000" + NONE + "00000000",
            head + "00000001" + NONE + "00000001" + NONE + "00000000",
            # Fewer or more values than told.
            head + "00000001" + FIVE + "00000000" + NONE + "00000000",
            head + "00000001" + FIVE + "00000001" + NONE + "00000001",
            head + "00000001" + FIVE + "11111111" + NONE + "11111111",
            "001 00000001" + good[12:],
            "001 00000011" + good[12:],
            # Fewer or more runs than told.
            head + "00000000" + FIVE + "00000001" + NONE + "00000000",
            head + "00000010" + FIVE + "00000001" + NONE + "00000000",
            # Out of bounds.
            head + "00000001" + TOO_HIGH + "00000001" + NONE + "00000000",
            head + "00000001" + FIVE + "00000001" + ALL_ONES + "00000000",
        )

    def test_book(self):
        head = "010 00000011"
        self.check(
            head + "000010" + FIVE + NONE + NINE + "00 01 00 10",
            # Out of order.
            head + "000010" + FIVE + NINE + NONE + "00 10 00 01",
            head + "000010" + NONE + FIVE + NINE + "01 00 01 10",
            # A value twice.
            head + "000010" + FIVE + NONE + FIVE + "00 01 00 10",
            head + "000011" + FIVE + NONE + NINE + NINE + "00 01 11 10",
            # A value never used.
            head + "000011" + FIVE + NONE + NINE + SEVEN + "00 01 00 10",
            head + "000010" + FIVE + NONE + NINE + "00 01 00 01",
            # A number that the book does not have.
            head + "000010" + FIVE + NONE + NINE + "00 01 11 10",
            # Too wide, and too narrow.
            head + "000010" + FIVE + NONE + NINE + "000 001 000 010",
            head + "000010" + FIVE + NONE + NINE + "0 1 0 1",
            # Fewer and more values than told.
            head + "000001" + FIVE + NONE + NINE + "00 01 00 10",
            head + "000011" + FIVE + NONE + NINE + "00 01 00 10",
            # Out of bounds.
            head + "000010" + FIVE + NONE + TOO_HIGH + "00 01 00 10",
        )

    def test_a_book_of_one(self):
        self.check("010 00000001 000000" + THREE, "010 00000001 000000" + THREE + "0 0",
                   "010 00000001 000001" + THREE + THREE + "0 1", "010 00000001 000001" + THREE + NONE + "0 0",
                   "010 00000001 000000" + TOO_HIGH)

    def test_base(self):
        head = "011 00000011"
        self.check(
            head + TEN + "00010 01 00 11 01",
            # Not the least value: none has a 1.
            head + NINE + "00010 10 00 11 10",
            head + TEN + "00010 10 00 11 10",
            # More bits than are needed.
            head + TEN + "00011 001 000 011 001",
            head + TEN + "11111" + "".join(format(each, "031b") for each in (1, 0, 3, 1)),
            # Fewer bits than they are.
            head + TEN + "00001 01 00 11 01",
            # The base out of bounds, or None.
            head + TOO_HIGH + "00010 01 00 11 01",
            head + NONE + "00010 01 00 11 01",
            head + NONE + "00010 10 00 11 10",
            # A value out of bounds.
            head + HIGHEST + "00010 01 00 10 01",
            head + ALL_ONES + "00010 01 00 11 01",
            head + TEN + "11111" + ("0" * 30 + "1") + "0" * 31 + "1" * 31 + ("0" * 30 + "1"),
        )

    def test_base_of_one_value(self):
        self.check("011 00000001" + FIVE + "00001 1 1", "011 00000001" + FIVE + "00001 0 0",
                   "011 00000001" + FIVE + "00010 01 01", "011 00000001" + FIVE + "00000")

    def test_base_of_none(self):
        self.check("011 00000001" + ZERO + "00000", "011 00000001" + NONE + "00000", "011 00000001" + ONE + "00000",
                   "011 00000001" + TOO_HIGH + "00000", "011 00000001" + ZERO + "00001 0 0")

    def test_steps(self):
        head = "100 00000011"
        self.check(
            head + FIVE + "00010 10 11 00",
            # More bits than are needed.
            head + FIVE + "00011 010 011 000",
            head + FIVE + "11111" + "".join(format(each, "031b") for each in (2, 3, 0)),
            # Fewer bits than they are.
            head + FIVE + "00001 10 11 00",
            # The first value None, or out of bounds.
            head + NONE + "00010 10 11 00",
            head + TOO_HIGH + "00010 10 11 00",
            head + ALL_ONES + "00010 10 11 00",
            # A step that leads out of bounds, also if the next one leads back.
            head + HIGHEST + "00010 10 11 00",
            head + LOWEST + "00010 11 10 00",
            head + FIVE + "11111" + "1" * 93,
        )

    def test_steps_that_need_no_bits(self):
        self.check("100 00000010" + FIVE + "00000", "100 00000010" + FIVE + "00001 0 0",
                   "100 00000010" + NONE + "00000", "100 00000010" + TOO_HIGH + "00000")
        self.check("100 00000000" + FIVE + "00000", "100 00000000" + FIVE + "00001", "100 00000000" + FIVE + "11111",
                   "100 00000000" + NONE + "00000", "100 00000000" + TOO_HIGH + "00000")


class OnlyWhatIsPackedSo(unittest.TestCase):
    def hold(self, text):
        try:
            good = is_packed_so(text)
        except BadBits:
            return
        self.assertTrue(good, text)

    def test_one_bit_turned(self):
        turn = {"0": "1", "1": "0"}
        for kind, values, text in all_packed():
            for place in range(0, len(text), 1 if len(text) < 300 else 13):
                self.hold(text[:place] + turn[text[place]] + text[place + 1:])

    def test_cut_off_at_the_front(self):
        # Not always bad: eleven bits of a None ahead of a value are the head of a plain block.
        for kind, values, text in all_packed():
            for place in range(1, len(text), 1 if len(text) < 300 else 13):
                self.hold(text[place:])

    def test_any_bits(self):
        source = random.Random(17)
        for kind in range(8):
            for _ in range(300):
                length = source.randint(0, 4)
                free = "".join(source.choice("01") for _ in range(source.randint(20, 160)))
                self.hold(format(kind, "03b") + format(length, "08b") + free)
                near = FIVE[:-3] + free
                self.hold(format(kind, "03b") + format(length, "08b") + near)


class Edges(unittest.TestCase):
    def test_values_at_the_bounds(self):
        for kind in KINDS:
            for values in ([LEAST], [GREATEST], [LEAST, GREATEST], [GREATEST, LEAST], [GREATEST] * 100):
                self.assertEqual(unpacked(model_packed(kind, values)), [(kind, values)])

    def test_many_blocks(self):
        text = model_packed("steps", [4, 5, 6])
        self.assertEqual(unpacked(text * 500), [("steps", [4, 5, 6])] * 500)


if __name__ == "__main__":
    unittest.main()
