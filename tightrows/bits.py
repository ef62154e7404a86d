"""Whole numbers as texts of 0 and 1, the heaviest bit first."""

from tightrows.errors import BadBits


def needed(number):
    return number.bit_length()


def in_bits(number, width):
    return "".join(["1" if (number >> place) & 1 else "0" for place in range(width - 1, -1, -1)])


class Reader:
    def __init__(self, text):
        # int() would also take blanks, signs and underscores, so they are refused ahead of it.
        if text.count("0") + text.count("1") != len(text):
            raise BadBits("a sign that is no bit")
        self.text = text
        self.place = 0

    def has_more(self):
        return self.place < len(self.text)

    def take(self, width):
        end = self.place + width
        if end > len(self.text):
            raise BadBits("the bits are cut off")
        taken = self.text[self.place:end]
        self.place = end
        # A number of no bits is 0, but int() refuses an empty text.
        return int(taken, 2) if width > 0 else 0

    def taken_since(self, place):
        return self.text[place:self.place]
