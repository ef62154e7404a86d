"""Tables, their rows and their words: [0.2], [0.3], [4.1], [4.2]."""

import random
import unittest

from samples import BAD_VALUES, FAR, GREATEST, LEAST, ModelTable
from tightrows.cutting import tight
from tightrows.errors import BadRow, BadTable, NoColumn, NoRow
from tightrows.tables import Table

HEADS = [("age", "number"), ("city", "word"), ("size", "number"), ("street", "word")]
BAD_WORDS = ("", "abcdefghijklm", "a b", "A", "aB", "a1", "a_", "-", " ", "a-b", "z{", "`a", "abcdefghijkL")
LONGEST = "abcdefghijkl"


def all_told(table, names):
    rows = [table.row(number) for number in table.numbers()]
    return (table.numbers(), rows, [table.bits(name) for name in names], table.where(("any",)))


def filled(rows):
    table = Table([("age", "number"), ("city", "word")])
    for row in rows:
        table.put(row)
    return table


class Made(unittest.TestCase):
    def test_of_1_and_of_8_columns(self):
        for size in range(1, 9):
            names = ["abcdefgh"[place] for place in range(size)]
            table = Table([(name, ("number", "word")[place % 2]) for place, name in enumerate(names)])
            self.assertEqual((table.numbers(), table.where(("any",))), ([], []))
            self.assertEqual([table.bits(name) for name in names], [""] * size)
            row = [(5, "home")[place % 2] for place in range(size)]
            self.assertEqual(table.put(row), 0)
            self.assertEqual(table.row(0), row)

    def test_names_of_1_and_of_8_letters(self):
        for name in ("a", "z", "abcdefgh", "zzzzzzzz", "number", "word", "in", "is"):
            self.assertEqual(Table([(name, "word")]).bits(name), "")

    def test_too_few_and_too_many_columns(self):
        self.assertRaises(BadTable, Table, [])
        for size in (9, 10, 26):
            names = ["abcdefghijklmnopqrstuvwxyz"[place] for place in range(size)]
            self.assertRaises(BadTable, Table, [(name, "number") for name in names])

    def test_names_that_are_none(self):
        for name in ("", "abcdefghi", "Age", "aGe", "a1", "a b", "a_b", " ", "-", "{", "`", "abcdefgH"):
            for kind in ("number", "word"):
                self.assertRaises(BadTable, Table, [(name, kind)])
                self.assertRaises(BadTable, Table, [("age", "number"), (name, kind)])

    def test_names_that_are_alike(self):
        for kinds in (("number", "number"), ("word", "word"), ("number", "word")):
            self.assertRaises(BadTable, Table, [("age", kinds[0]), ("age", kinds[1])])
            self.assertRaises(BadTable, Table, [("age", kinds[0]), ("city", "word"), ("age", kinds[1])])

    def test_kinds_that_are_none(self):
        for kind in ("", "numbers", "Number", "WORD", "text", "words", "int", "plain"):
            self.assertRaises(BadTable, Table, [("age", kind)])
            self.assertRaises(BadTable, Table, [("age", "number"), ("city", kind)])

    def test_columns_that_are_no_pairs(self):
        for head in ((), ("age",), ("age", "number", "word")):
            self.assertRaises(BadTable, Table, [head])


class Words(unittest.TestCase):
    def hold(self, table, numbers):
        self.assertEqual(table.bits("city"), tight(numbers))

    def test_numbered_in_the_order_in_which_they_first_came(self):
        table = Table([("city", "word")])
        kept = []
        for word, number in (("rome", 0), ("bonn", 1), ("rome", 0), (None, None), ("oslo", 2), ("bonn", 1), ("a", 3)):
            table.put([word])
            kept.append(number)
            self.hold(table, kept)

    def test_words_of_1_and_of_12_letters_and_none(self):
        table = Table([("city", "word")])
        for word in ("a", "z", LONGEST, "zzzzzzzzzzzz", None):
            self.assertEqual(table.row(table.put([word])), [word])
        self.hold(table, [0, 1, 2, 3, None])

    def test_a_number_stays_if_rows_went(self):
        table = Table([("city", "word")])
        for word in ("rome", "bonn", "oslo"):
            table.put([word])
        table.drop(0)
        self.hold(table, [1, 2])
        table.put(["kiew"])
        table.put(["rome"])
        self.hold(table, [1, 2, 3, 0])
        self.assertEqual([table.row(number) for number in (1, 2, 3, 4)], [["bonn"], ["oslo"], ["kiew"], ["rome"]])

    def test_a_number_stays_if_all_rows_went(self):
        table = Table([("city", "word")])
        for word in ("rome", None, "bonn"):
            table.put([word])
        for number in (0, 1, 2):
            table.drop(number)
        self.hold(table, [])
        table.put(["bonn"])
        table.put(["oslo"])
        self.hold(table, [1, 2])
        self.assertEqual(table.row(3), ["bonn"])

    def test_each_column_has_numbers_of_its_own(self):
        table = Table([("city", "word"), ("other", "word")])
        table.put(["rome", "bonn"])
        table.put(["bonn", "bonn"])
        table.put([None, "rome"])
        self.hold(table, [0, 1, None])
        self.assertEqual(table.bits("other"), tight([0, 0, 1]))

    def test_more_words_than_rows(self):
        table = Table([("city", "word")])
        letters = "abcdefghijklmnopqrstuvwxyz"
        for number in range(100):
            self.assertEqual(table.put([letters[number // 26] + letters[number % 26]]), number)
            self.hold(table, [number])
            table.drop(number)


class Put(unittest.TestCase):
    def test_numbers_never_come_again(self):
        table = filled([[1, "a"], [2, "b"], [3, "c"]])
        self.assertEqual(table.numbers(), [0, 1, 2])
        table.drop(2)
        self.assertEqual(table.put([4, "d"]), 3)
        table.drop(0)
        self.assertEqual(table.put([5, None]), 4)
        self.assertEqual(table.numbers(), [1, 3, 4])
        for number in (1, 3, 4):
            table.drop(number)
        self.assertEqual(table.numbers(), [])
        self.assertEqual(table.put([None, None]), 5)

    def test_values_at_the_bounds(self):
        table = filled([])
        for row in ([LEAST, "a"], [GREATEST, None], [None, LONGEST], [0, "z"]):
            self.assertEqual(table.row(table.put(row)), row)
        self.assertEqual(table.bits("age"), tight([LEAST, GREATEST, None, 0]))

    def test_a_65th_row(self):
        table = Table([("age", "number"), ("city", "word")])
        for number in range(64):
            self.assertEqual(table.put([number, "a"]), number)
        told = all_told(table, ["age", "city"])
        for row in ([1, "a"], [None, None], [1, "new"]):
            self.assertRaises(BadRow, table.put, row)
        self.assertEqual(all_told(table, ["age", "city"]), told)
        table.drop(5)
        self.assertEqual(table.put([7, "later"]), 64)
        self.assertEqual(table.bits("city"), tight([0] * 63 + [1]))
        self.assertRaises(BadRow, table.put, [1, "a"])
        self.assertEqual(table.numbers(), [number for number in range(65) if number != 5])


class Refused(unittest.TestCase):
    def refuse(self, row):
        table = Table(HEADS)
        table.put([1, "rome", 2, "main"])
        table.put([None, None, 4, "side"])
        told = all_told(table, [name for name, kind in HEADS])
        with self.subTest(row=row):
            self.assertRaises(BadRow, table.put, row)
        self.assertEqual(all_told(table, [name for name, kind in HEADS]), told)
        # No number of a row and no number of a word went with it.
        self.assertEqual(table.put([0, "zebra", 0, "yard"]), 2)
        self.assertEqual(table.bits("city"), tight([0, None, 1]))
        self.assertEqual(table.bits("street"), tight([0, 1, 2]))

    def test_too_few_and_too_many_values(self):
        whole = [1, "new", 2, "new"]
        for row in ([], whole[:1], whole[:3], whole + [1], whole + [None], whole + ["new"], whole * 2):
            self.refuse(row)

    def test_values_beyond_the_bounds(self):
        for bad in BAD_VALUES:
            self.refuse([bad, "new", 2, "new"])
            self.refuse([1, "new", bad, "new"])

    def test_numbers_for_words_and_words_for_numbers(self):
        self.refuse(["a", "new", 2, "new"])
        self.refuse([1, "new", "a", "new"])
        self.refuse([1, 0, 2, "new"])
        self.refuse([1, "new", 2, 0])
        self.refuse(["new", 1, "new", 2])
        self.refuse([1, "new", "7", "new"])

    def test_words_that_are_none(self):
        for bad in BAD_WORDS:
            self.refuse([1, bad, 2, "new"])
            self.refuse([1, "new", 2, bad])


class Dropped(unittest.TestCase):
    def test_tells_none(self):
        self.assertIsNone(filled([[1, "a"]]).drop(0))

    def test_each(self):
        rows = [[5, "a"], [None, "b"], [7, None], [5, "a"]]
        for gone in range(4):
            table = filled(rows)
            table.drop(gone)
            left = [number for number in range(4) if number != gone]
            self.assertEqual(table.numbers(), left)
            self.assertEqual([table.row(number) for number in left], [rows[number] for number in left])
            self.assertEqual(table.bits("age"), tight([rows[number][0] for number in left]))

    def test_no_such_row(self):
        table = filled([[1, "a"], [2, "b"], [3, "c"]])
        table.drop(1)
        told = all_told(table, ["age", "city"])
        for number in (1, 3, 4, -1, -2, -3, 64, FAR, -FAR):
            self.assertRaises(NoRow, table.drop, number)
            self.assertRaises(NoRow, table.row, number)
        self.assertEqual(all_told(table, ["age", "city"]), told)

    def test_of_a_table_without_rows(self):
        for number in (0, -1, 1, FAR):
            self.assertRaises(NoRow, filled([]).drop, number)
            self.assertRaises(NoRow, filled([]).row, number)


class Told(unittest.TestCase):
    def test_no_such_column(self):
        for table in (filled([]), filled([[1, "a"]])):
            for name in ("ages", "", "a", "Age", "number", "word", "abcdefghi"):
                self.assertRaises(NoColumn, table.bits, name)

    def test_behind_each_put_and_drop(self):
        source = random.Random(53)
        table, model = Table(HEADS), ModelTable(HEADS)
        for _ in range(160):
            if model.rows and (len(model.rows) == 64 or source.random() < 0.4):
                gone = source.choice(list(model.rows))
                table.drop(gone)
                del model.rows[gone]
            else:
                row = [source.choice((None, 1, 2, 2, source.randint(LEAST, GREATEST))),
                       source.choice((None, "rome", "bonn", "a", LONGEST)),
                       source.randint(0, 9), source.choice("abcdefghijklmnopqrstuvwxyz")]
                self.assertEqual(table.put(row), model.put(row))
            self.assertEqual(table.numbers(), list(model.rows))
            self.assertEqual([table.row(number) for number in model.rows],
                             [list(row.values()) for row in model.rows.values()])
            for name, kind in HEADS:
                self.assertEqual(table.bits(name), tight(model.kept(name)))


if __name__ == "__main__":
    unittest.main()
