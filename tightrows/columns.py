"""Columns that lie packed, and are asked as they lie."""

from tightrows.asking import check_question
from tightrows.asking import marked_values
from tightrows.cutting import tight
from tightrows.errors import NoRow
from tightrows.packings import unpacked


def check_row(row, size):
    if not 0 <= row < size:
        raise NoRow("there is no such row")


def values_in(bits):
    values = []
    for kind, block in unpacked(bits):
        values.extend(block)
    return values


class Column:
    def __init__(self, values):
        # The bits are all that is kept, so nothing can lie beside them that does not fit them.
        self.lying = tight(values)

    def size(self):
        return len(self.told())

    def told(self):
        return values_in(self.lying)

    def kinds(self):
        return [(kind, len(block)) for kind, block in unpacked(self.lying)]

    def bits(self):
        return self.lying

    def value(self, row):
        values = self.told()
        check_row(row, len(values))
        return values[row]

    def answering(self, question):
        check_question(question)
        found = []
        begin = 0
        for kind, block in unpacked(self.lying):
            marks = marked_values(question, block)
            found.extend([(begin + place, block[place]) for place, mark in enumerate(marks) if mark])
            begin += len(block)
        return found

    def numbers_answering(self, question):
        return [value for row, value in self.answering(question) if value is not None]

    def rows(self, question):
        return [row for row, value in self.answering(question)]

    def how_many(self, question):
        return len(self.answering(question))

    def total(self, question):
        return sum(self.numbers_answering(question))

    def ends(self, question):
        found = self.numbers_answering(question)
        return (min(found), max(found)) if found else None

    def put(self, row, value):
        values = self.told()
        check_row(row, len(values) + 1)
        values.insert(row, value)
        self.lying = tight(values)

    def drop(self, row):
        values = self.told()
        check_row(row, len(values))
        values.pop(row)
        self.lying = tight(values)

    def change(self, row, value):
        values = self.told()
        check_row(row, len(values))
        values[row] = value
        self.lying = tight(values)


def column_of(bits):
    return Column(values_in(bits))
