"""Words, and columns of them, which keep numbers in their place."""

from tightrows.asking import answers
from tightrows.asking import check_question_of
from tightrows.asking import is_joined
from tightrows.columns import Column

MOST_IN_WORD = 12


def are_small_letters(text):
    return all(["a" <= sign <= "z" for sign in text])


def is_small(text, most):
    return isinstance(text, str) and 1 <= len(text) <= most and are_small_letters(text)


def is_written(word):
    return is_small(word, MOST_IN_WORD)


def is_word(word):
    return word is None or is_written(word)


def check_question_of_words(question):
    check_question_of(question, is_written)


class WordColumn:
    def __init__(self):
        self.column = Column([])
        # Never made shorter: a word keeps its number, whatever rows go.
        self.numbered = {}

    def number_of(self, word):
        return None if word is None else self.numbered.setdefault(word, len(self.numbered))

    def told(self):
        words = list(self.numbered)
        return [None if number is None else words[number] for number in self.column.told()]

    def bits(self):
        return self.column.bits()

    def put(self, row, word):
        self.column.put(row, self.number_of(word))

    def drop(self, row):
        self.column.drop(row)

    def in_numbers(self, question):
        # Numbers come in another order than texts, so each word is asked, and then its number looked for.
        if is_joined(question):
            return tuple([question[0]] + [self.in_numbers(part) for part in question[1:]])
        if question[0] in ("all", "none"):
            return question
        return ("among", [number for word, number in self.numbered.items() if answers(question, word)])

    def rows(self, question):
        check_question_of_words(question)
        return self.column.rows(self.in_numbers(question))
