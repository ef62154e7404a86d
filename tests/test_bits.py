"""Numbers in so many bits, [0.3]."""

import unittest

from tightrows.bits import Reader, in_bits, needed
from tightrows.errors import BadBits


class Bits(unittest.TestCase):
    def test_how_many_bits_a_number_needs(self):
        told = [needed(number) for number in (0, 1, 2, 3, 4, 7, 8, 255, 256, 8000001)]
        self.assertEqual(told, [0, 1, 2, 2, 3, 3, 4, 8, 9, 23])

    def test_the_heaviest_bit_comes_first(self):
        self.assertEqual(in_bits(6, 3), "110")
        self.assertEqual(in_bits(1, 5), "00001")
        self.assertEqual(in_bits(0, 0), "")

    def test_numbers_are_read_one_behind_the_other(self):
        reader = Reader("11000001")
        self.assertEqual([reader.take(3), reader.take(0), reader.take(5)], [6, 0, 1])
        self.assertFalse(reader.has_more())

    def test_no_more_is_read_than_there_is(self):
        reader = Reader("1100")
        self.assertRaises(BadBits, reader.take, 5)

    def test_other_signs_are_refused(self):
        for text in (" 1", "1 ", "+1", "-1", "1_0", "0b1", "2", "~"):
            self.assertRaises(BadBits, Reader, text)


if __name__ == "__main__":
    unittest.main()
