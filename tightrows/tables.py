"""Tables: columns of numbers and of words, side by side, and rows with numbers."""

from tightrows.asking import check_joined
from tightrows.asking import check_question
from tightrows.asking import marked
from tightrows.columns import Column
from tightrows.cutting import MOST_IN_COLUMN
from tightrows.errors import BadQuestion
from tightrows.errors import BadRow
from tightrows.errors import BadTable
from tightrows.errors import NoColumn
from tightrows.errors import NoRow
from tightrows.packings import is_value
from tightrows.words import WordColumn
from tightrows.words import check_question_of_words
from tightrows.words import is_small
from tightrows.words import is_word

MOST_COLUMNS = 8
MOST_IN_NAME = 8
# How many parts each has, the word ahead of them counted.
SIMPLE = {"any": 1, "in": 3}


def is_head(head):
    if not isinstance(head, tuple) or len(head) != 2:
        return False
    return is_small(head[0], MOST_IN_NAME) and head[1] in ("number", "word")


def check_heads(heads):
    if not 1 <= len(heads) <= MOST_COLUMNS:
        raise BadTable("a table has 1 to 8 columns")
    if not all([is_head(head) for head in heads]):
        raise BadTable("a column has a name of 1 to 8 small letters and a kind, number or word")
    if len(set([name for name, kind in heads])) != len(heads):
        raise BadTable("two columns have one name")


def takes(part, value):
    return is_word(value) if isinstance(part, WordColumn) else is_value(value)


def check_asked_of(part, question):
    if isinstance(part, WordColumn):
        check_question_of_words(question)
    else:
        check_question(question)


def none_first(value):
    # The 0 and 1 settle it ahead of None, which is neither below nor above anything.
    return (0, 0) if value is None else (1, value)


class Table:
    def __init__(self, columns):
        check_heads(columns)
        self.parts = {}
        for name, kind in columns:
            self.parts[name] = WordColumn() if kind == "word" else Column([])
        # The numbers of the rows that are there, in the order in which they lie in the columns.
        self.living = []
        self.coming = 0

    def part(self, name):
        if name not in self.parts:
            raise NoColumn("there is no such column")
        return self.parts[name]

    def place_of(self, number):
        if number not in self.living:
            raise NoRow("there is no such row")
        return self.living.index(number)

    def check_put(self, values):
        if len(self.living) == MOST_IN_COLUMN:
            raise BadRow("a table has up to 64 rows")
        if len(values) != len(self.parts):
            raise BadRow("a row has a value for each column")
        if not all([takes(part, value) for part, value in zip(self.parts.values(), values)]):
            raise BadRow("not what the column takes")

    def put(self, values):
        # All is checked ahead of the first change, so that a refused row leaves nothing, no word either.
        self.check_put(values)
        for part, value in zip(self.parts.values(), values):
            part.put(len(self.living), value)
        number = self.coming
        self.living.append(number)
        self.coming += 1
        return number

    def drop(self, number):
        place = self.place_of(number)
        for part in self.parts.values():
            part.drop(place)
        self.living.pop(place)

    def numbers(self):
        return list(self.living)

    def row(self, number):
        place = self.place_of(number)
        return [part.told()[place] for part in self.parts.values()]

    def bits(self, name):
        return self.part(name).bits()

    def check_simple(self, simple):
        if simple[0] not in SIMPLE or len(simple) != SIMPLE[simple[0]]:
            raise BadQuestion("there is no such where")
        if simple[0] == "in":
            check_asked_of(self.part(simple[1]), simple[2])

    def marks_of(self, simple):
        if simple[0] == "any":
            return [True for number in self.living]
        found = self.part(simple[1]).rows(simple[2])
        return [place in found for place in range(len(self.living))]

    def places_where(self, where):
        check_joined(where, lambda simple: self.check_simple(simple))
        marks = marked(where, lambda simple: self.marks_of(simple))
        return [place for place, mark in enumerate(marks) if mark]

    def where(self, where):
        return [self.living[place] for place in self.places_where(where)]

    def sorted_by(self, name, falling):
        values = self.part(name).told()
        places = list(range(len(values)))
        # Sorting leaves like ones as they stood, also where it is turned about.
        if falling:
            places = sorted(places, key=lambda place: none_first(values[place]), reverse=True)
        else:
            places = sorted(places, key=lambda place: none_first(values[place]))
        return [self.living[place] for place in places]

    def groups(self, by, where, of):
        values = self.part(by).told()
        summed = self.part(of)
        if isinstance(summed, WordColumn):
            raise BadQuestion("words are not summed up")
        amounts = summed.told()
        found = {}
        for place in self.places_where(where):
            found.setdefault(values[place], []).append(amounts[place])
        return [
            (value, len(found[value]), sum([amount for amount in found[value] if amount is not None]))
            for value in sorted(list(found), key=none_first)
        ]

    def joined(self, name, other, theirs):
        values = self.part(name).told()
        others = list(zip(other.part(theirs).told(), other.numbers()))
        pairs = []
        for number, value in zip(self.living, values):
            if value is not None:
                pairs.extend([(number, their_number) for their_value, their_number in others if their_value == value])
        return pairs
