"""Columns that lie packed: [0.2], [0.3], [3.2], [3.3]."""

import random
import unittest

from samples import (
    BAD_VALUES, FAR, GREATEST, KINDS, LEAST, mixed, model_answers, model_packed, some_columns, some_questions,
)
from tightrows.columns import Column, column_of
from tightrows.cutting import cuts, tight
from tightrows.errors import BadBits, BadValue, NoRow
from tightrows.packings import best_kind

QUESTIONS = some_questions(43, [0, 3, 5, 5000, LEAST, GREATEST, FAR, -FAR], 60)
FEW_QUESTIONS = [("all",), ("none",), ("is", 3), ("not", ("above", 4)), ("either", ("none",), ("among", [5, 0, LEAST]))]


def blocks_of(values):
    ends = cuts(values)
    return [values[begin:end] for begin, end in zip([0] + ends, ends)]


def walked_columns():
    """Those short enough that each of their rows may come and go, and some long ones."""
    columns = some_columns()
    return [values for values in columns if len(values) < 30] + [columns[-2] + [None] * 8, columns[-1]]


def all_told(column, questions=FEW_QUESTIONS):
    asked = [(column.rows(q), column.how_many(q), column.total(q), column.ends(q)) for q in questions]
    values = [column.value(row) for row in (0, column.size() // 2, column.size() - 1) if column.size() > 0]
    return (column.size(), column.told(), column.kinds(), column.bits(), values, asked)


class Made(unittest.TestCase):
    def test_by_hand(self):
        column = Column([0, 0, 0, 0, 0, 0, LEAST, GREATEST])
        self.assertEqual(column.size(), 8)
        self.assertEqual(column.told(), [0, 0, 0, 0, 0, 0, LEAST, GREATEST])
        self.assertEqual(column.kinds(), [("steps", 6), ("plain", 2)])
        self.assertEqual(column.bits(), model_packed("steps", [0] * 6) + model_packed("plain", [LEAST, GREATEST]))

    def test_of_no_values(self):
        column = Column([])
        self.assertEqual((column.size(), column.told(), column.kinds(), column.bits()), (0, [], [], ""))

    def test_of_one_value(self):
        for value in (0, None, LEAST, GREATEST):
            column = Column([value])
            self.assertEqual((column.size(), column.told(), column.kinds()), (1, [value], [("plain", 1)]))
            self.assertEqual(column.bits(), model_packed("plain", [value]))

    def test_of_64_values(self):
        column = Column([0] * 64)
        self.assertEqual((column.size(), column.kinds()), (64, [("steps", 64)]))

    def test_kinds_and_bits_are_those_of_the_blocks_of_cuts(self):
        for values in some_columns():
            column = Column(values)
            with self.subTest(values=values):
                self.assertEqual(column.size(), len(values))
                self.assertEqual(column.told(), values)
                self.assertEqual(column.kinds(), [(best_kind(block), len(block)) for block in blocks_of(values)])
                self.assertEqual(column.bits(), tight(values))

    def test_kinds_are_a_list_of_tuples(self):
        told = Column([5, 6, 7]).kinds()
        self.assertIs(type(told), list)
        self.assertEqual([(type(pair), type(pair[0]), type(pair[1])) for pair in told], [(tuple, str, int)])

    def test_the_columns_asked_here_have_blocks_of_each_kind(self):
        kinds = [[kind for kind, rows in Column(values).kinds()] for values in some_columns()]
        self.assertEqual({kind for each in kinds for kind in each}, set(KINDS))
        self.assertTrue([each for each in kinds if len(set(each)) > 2])

    def test_too_many_and_values_that_are_none(self):
        for values in ([0] * 65, [None] * 65, list(range(100)), [0] * 101):
            self.assertRaises(BadValue, Column, values)
        for bad in BAD_VALUES:
            for values in ([bad], [None, bad], [0] * 63 + [bad], [bad] * 65):
                self.assertRaises(BadValue, Column, values)


class ValueOfARow(unittest.TestCase):
    def test_each(self):
        for values in some_columns():
            column = Column(values)
            self.assertEqual([column.value(row) for row in range(len(values))], values)

    def test_no_such_row(self):
        for values in some_columns():
            column = Column(values)
            for row in (len(values), len(values) + 1, -1, -len(values), -len(values) - 1, 64, FAR, -FAR):
                if not 0 <= row < len(values):
                    self.assertRaises(NoRow, column.value, row)


class Asked(unittest.TestCase):
    def test_as_value_by_value(self):
        for values in some_columns():
            column = Column(values)
            for question in QUESTIONS:
                rows = [row for row, value in enumerate(values) if model_answers(question, value)]
                numbers = [values[row] for row in rows if values[row] is not None]
                with self.subTest(values=values, question=question):
                    self.assertEqual(column.rows(question), rows)
                    self.assertEqual(column.how_many(question), len(rows))
                    self.assertEqual(column.total(question), sum(numbers))
                    self.assertEqual(column.ends(question), (min(numbers), max(numbers)) if numbers else None)

    def test_by_hand(self):
        column = Column([4, None, -3, 4, 9])
        question = ("either", ("none",), ("below", 9))
        self.assertEqual(column.rows(question), [0, 1, 2, 3])
        self.assertEqual(column.how_many(question), 4)
        self.assertEqual(column.total(question), 5)
        self.assertEqual(column.ends(question), (-3, 4))
        self.assertIs(type(column.ends(question)), tuple)
        self.assertEqual(column.ends(("is", 9)), (9, 9))

    def test_no_row_answers(self):
        for column in (Column([4, None, 5]), Column([])):
            told = [asked(("is", 6)) for asked in (column.rows, column.how_many, column.total, column.ends)]
            self.assertEqual(told, [[], 0, 0, None])

    def test_all_that_answer_are_none(self):
        column = Column([None, 4, None])
        told = [asked(("none",)) for asked in (column.rows, column.how_many, column.total, column.ends)]
        self.assertEqual(told, [[0, 2], 2, 0, None])
        told = [asked(("all",)) for asked in (Column([None] * 64).total, Column([None] * 64).ends)]
        self.assertEqual(told, [0, None])

    def test_the_greatest_total(self):
        self.assertEqual(Column([GREATEST] * 64).total(("all",)), 256000000)
        self.assertEqual(Column([LEAST] * 64).total(("all",)), -256000000)


class ComingAndGoing(unittest.TestCase):
    def hold(self, column, values):
        self.assertEqual(column.told(), values)
        self.assertEqual(all_told(column), all_told(Column(values)))

    def coming(self, values, row):
        some = (7, None, LEAST)
        return some if len(values) < 20 else some[row % 3:row % 3 + 1]

    def test_put_ahead_of_each_row_and_behind_all(self):
        for values in walked_columns():
            for row in range(len(values) + 1 if len(values) < 64 else 0):
                for value in self.coming(values, row):
                    column = Column(values)
                    self.assertIsNone(column.put(row, value))
                    self.hold(column, values[:row] + [value] + values[row:])

    def test_drop_of_each_row(self):
        for values in walked_columns():
            for row in range(len(values)):
                column = Column(values)
                self.assertIsNone(column.drop(row))
                self.hold(column, values[:row] + values[row + 1:])

    def test_change_of_each_row(self):
        for values in walked_columns():
            for row in range(len(values)):
                for value in self.coming(values, row):
                    column = Column(values)
                    self.assertIsNone(column.change(row, value))
                    self.hold(column, values[:row] + [value] + values[row + 1:])

    def test_drop_of_the_last_row_that_there_is(self):
        column = Column([5])
        column.drop(0)
        self.hold(column, [])
        self.assertEqual((column.size(), column.bits(), column.kinds()), (0, "", []))
        self.assertRaises(NoRow, column.drop, 0)
        column.put(0, None)
        self.hold(column, [None])

    def test_many_one_behind_the_other(self):
        source = random.Random(47)
        for first in ([], [0] * 64, mixed(source, 30)):
            values = list(first)
            column = Column(values)
            for value in mixed(source, 120):
                row = source.randint(0, len(values))
                step = source.choice(("put", "put", "drop", "change"))
                if step == "put" and len(values) < 64:
                    column.put(row, value)
                    values.insert(row, value)
                elif step == "drop" and row < len(values):
                    column.drop(row)
                    del values[row]
                elif step == "change" and row < len(values):
                    column.change(row, value)
                    values[row] = value
                self.hold(column, values)

    def test_one_column_leaves_another(self):
        values = [1, 2, 3]
        one, other = Column(values), Column(values)
        one.drop(0)
        one.put(0, None)
        self.hold(other, [1, 2, 3])


class Refused(unittest.TestCase):
    def refuse(self, error, column, step, *handed):
        told = all_told(column)
        with self.subTest(step=step, handed=handed):
            self.assertRaises(error, getattr(column, step), *handed)
        self.assertEqual(all_told(column), told)

    def test_no_such_row(self):
        for values in ([], [5], [1, None, 3], [0] * 63, [0] * 64):
            column = Column(values)
            size = len(values)
            for row in (-1, -2, -size - 1, size + 1, 65, 66, FAR, -FAR):
                for value in (0, None) + BAD_VALUES:
                    self.refuse(NoRow, column, "put", row, value)
            for row in (-1, -2, -size - 1, size, size + 1, FAR, -FAR):
                self.refuse(NoRow, column, "drop", row)
                for value in (0, None) + BAD_VALUES:
                    self.refuse(NoRow, column, "change", row, value)

    def test_values_that_are_none(self):
        for values in ([5], [1, None, 3], [0] * 63, [0] * 64):
            for bad in BAD_VALUES:
                for row in (0, len(values) - 1):
                    self.refuse(BadValue, Column(values), "put", row, bad)
                    self.refuse(BadValue, Column(values), "change", row, bad)
                self.refuse(BadValue, Column(values), "put", len(values), bad)
        self.refuse(BadValue, Column([]), "put", 0, GREATEST + 1)

    def test_a_65th_row(self):
        for values in ([0] * 64, list(range(64)), [None] * 64):
            for row in (0, 1, 32, 63, 64):
                for value in (0, None, GREATEST):
                    self.refuse(BadValue, Column(values), "put", row, value)
            column = Column(values)
            column.change(63, 9)
            column.drop(0)
            column.put(63, 8)
            self.assertEqual(column.told(), values[1:63] + [9, 8])


class OfBits(unittest.TestCase):
    def test_of_its_own_bits(self):
        for values in some_columns():
            column = column_of(tight(values))
            self.assertIs(type(column), Column)
            self.assertEqual(all_told(column), all_told(Column(values)))

    def test_of_bits_that_are_not_the_tightest(self):
        for values in some_columns():
            for kind in KINDS:
                for blocks in ([values], [[value] for value in values], [values[:3], values[3:7], values[7:]]):
                    told = [model_packed(kind, block) for block in blocks if block]
                    if None not in told:
                        column = column_of("".join(told))
                        self.assertEqual(column.bits(), tight(values))
                        self.assertEqual(all_told(column), all_told(Column(values)))

    def test_of_no_bits(self):
        self.assertEqual(all_told(column_of("")), all_told(Column([])))

    def test_wrong_bits(self):
        good = tight([5, 6, 7, 8])
        for bits in ("0", "1", "2", " ", good[:-1], good + "0", "101" + good[3:], good + "x", " " + good):
            self.assertRaises(BadBits, column_of, bits)

    def test_of_64_values(self):
        bits = model_packed("plain", [3] * 32) + model_packed("runs", [4] * 32)
        self.assertEqual(column_of(bits).told(), [3] * 32 + [4] * 32)

    def test_more_than_64_values(self):
        for bits in (model_packed("steps", [3] * 65), model_packed("runs", [None] * 100),
                     model_packed("plain", [3]) * 65, model_packed("base", [1, 2]) * 40):
            self.assertRaises(BadValue, column_of, bits)

    def test_wrong_bits_ahead_of_too_many_values(self):
        bits = model_packed("steps", [3] * 65)
        for wrong in (bits + "0", bits[:-1], bits + "111", bits + bits[:-1], bits + "2"):
            self.assertRaises(BadBits, column_of, wrong)


if __name__ == "__main__":
    unittest.main()
