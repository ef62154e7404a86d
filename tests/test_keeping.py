"""Nothing that is handed in is changed or kept, and lists that are told are new ones: [0.1]."""

import copy
import unittest

from samples import GREATEST, KINDS, LEAST, within
from tightrows.columns import Column, column_of
from tightrows.cutting import cuts, prices, shows, tight
from tightrows.errors import RowsError
from tightrows.packings import best_kind, packed, room, unpacked
from tightrows.tables import Table

GOOD = [7, 7, None, 8, LEAST, GREATEST, 7, 7, 7]
BAD = [7, GREATEST + 1, None]
HEADS = [("age", "number"), ("city", "word")]
ROWS = [[7, "rome"], [None, "bonn"], [7, None], [9, "oslo"], [9, "bonn"]]


def questions():
    """Anew each time, as their lists may be changed."""
    told = [("all",), ("none",), ("among", [7, 9, GREATEST]), ("among", []), ("among", ["rome", "bonn"]), ("is",)]
    return told + [within(question, times) for question in told for times in (1, 5, 6)]


def wheres():
    told = [("in", name, question) for name in ("age", "city", "none") for question in questions()]
    return told + [("both", ("any",), ("not", where)) for where in told]


def filled():
    table = Table(HEADS)
    for row in ROWS:
        table.put(row)
    return table


def changed(told):
    """Spoil a list that was told."""
    told.append("more")
    told[0] = "other"
    told.reverse()


class Calling(unittest.TestCase):
    def call(self, asked, *handed):
        copies = [each if isinstance(each, Table) else copy.deepcopy(each) for each in handed]
        try:
            asked(*handed)
        except RowsError:
            pass
        self.assertEqual(list(handed), copies)


class HandedIn(Calling):
    def test_unchanged(self):
        for values in (GOOD, BAD, [], [0] * 101, [1, 2, 3], [None]):
            for kind in KINDS + ("other",):
                self.call(room, kind, list(values))
                self.call(packed, kind, list(values))
            for asked in (best_kind, prices, cuts, tight):
                self.call(asked, list(values))
            self.call(shows, list(values), [len(values)], [0])

    def test_ends_and_prices_unchanged(self):
        for ends, some in ((cuts(GOOD), prices(GOOD)), ([9, 3], [0] * 10), ([], []), ([1, 9], prices(GOOD))):
            self.call(shows, list(GOOD), ends, some)

    def test_not_kept(self):
        values = list(GOOD)
        bits = tight(values)
        ends = cuts(values)
        values[0] = None
        values.append(3)
        self.assertEqual(tight(GOOD), bits)
        self.assertEqual(cuts(GOOD), ends)


class HandedToColumns(Calling):
    def test_unchanged(self):
        for values in (GOOD, BAD, [], [0] * 65, [None]):
            self.call(Column, list(values))
        for question in questions():
            for values in (GOOD, []):
                column = Column(values)
                for asked in (column.rows, column.how_many, column.total, column.ends):
                    self.call(asked, question)

    def test_not_kept(self):
        values = list(GOOD)
        column = Column(values)
        changed(values)
        self.assertEqual((column.told(), column.bits()), (GOOD, tight(GOOD)))
        column.put(0, 3)
        self.assertEqual(column.told(), [3] + GOOD)
        self.assertEqual(len(values), len(GOOD) + 1)

    def test_the_list_within_among_is_not_kept(self):
        column = Column(GOOD)
        among = [7]
        self.assertEqual(column.rows(("among", among)), [0, 1, 6, 7, 8])
        among[0] = 8
        self.assertEqual(column.rows(("among", [7])), [0, 1, 6, 7, 8])
        self.assertEqual(column.rows(("among", among)), [3])


class HandedToTables(Calling):
    def test_unchanged(self):
        for columns in (HEADS, [], [("age", "number")] * 2, [("Age", "number")]):
            self.call(Table, list(columns))
        for row in ([7, "rome"], [7], [7, 7], ["rome", "rome"], [None, None], [7, "new"], [GREATEST + 1, "new"]):
            self.call(filled().put, row)
        table = filled()
        for where in wheres():
            self.call(table.where, where)
            self.call(table.groups, "city", where, "age")

    def test_the_other_table_is_unchanged(self):
        table, other = filled(), filled()
        for name in ("age", "city", "none"):
            self.call(table.joined, name, other, name)
        self.assertEqual([other.row(number) for number in other.numbers()], ROWS)
        self.assertEqual([other.bits("age"), other.bits("city")], [table.bits("age"), table.bits("city")])

    def test_not_kept(self):
        columns = list(HEADS)
        table = Table(columns)
        changed(columns)
        row = [7, "rome"]
        table.put(row)
        changed(row)
        self.assertEqual(table.row(0), [7, "rome"])
        self.assertEqual(table.put([8, "bonn"]), 1)
        self.assertEqual((table.bits("age"), table.bits("city")), (tight([7, 8]), tight([0, 1])))

    def test_the_list_within_among_is_not_kept(self):
        table = filled()
        among = ["rome"]
        self.assertEqual(table.where(("in", "city", ("among", among))), [0])
        among[0] = "bonn"
        self.assertEqual(table.where(("in", "city", ("among", ["rome"]))), [0])
        self.assertEqual(table.where(("in", "city", ("among", among))), [1, 4])

    def test_asking_changes_nothing(self):
        table = filled()
        for where in wheres():
            self.call(table.where, where)
        for name in ("age", "city"):
            table.sorted_by(name, True)
            table.groups(name, ("any",), "age")
        self.assertEqual([table.row(number) for number in table.numbers()], ROWS)
        self.assertEqual((table.bits("age"), table.bits("city")), (filled().bits("age"), filled().bits("city")))


class ToldByColumnsAndTables(unittest.TestCase):
    def hold(self, asked, *handed):
        told = asked(*handed)
        kept = list(told)
        self.assertIs(type(told), list)
        changed(told)
        self.assertEqual(asked(*handed), kept)

    def test_columns(self):
        for column in (Column(GOOD), Column([]), column_of(tight(GOOD))):
            bits = column.bits()
            self.hold(column.told)
            self.hold(column.kinds)
            self.hold(column.rows, ("all",))
            self.hold(column.rows, ("is", 12))
            self.assertEqual(column.bits(), bits)

    def test_tables(self):
        for table in (filled(), Table(HEADS)):
            bits = [table.bits("age"), table.bits("city")]
            numbers = table.numbers()
            self.hold(table.numbers)
            for number in numbers:
                self.hold(table.row, number)
            for where in (("any",), ("not", ("any",)), ("in", "city", ("is", "bonn"))):
                self.hold(table.where, where)
                self.hold(table.groups, "city", where, "age")
            for name in ("age", "city"):
                self.hold(table.sorted_by, name, False)
                self.hold(table.sorted_by, name, True)
                self.hold(table.joined, name, table, name)
            self.assertEqual([table.bits("age"), table.bits("city")], bits)
            self.assertEqual(table.put([1, "new"]), len(numbers))


class Told(unittest.TestCase):
    def test_prices_and_cuts_are_new(self):
        for asked in (prices, cuts):
            for values in (GOOD, [], [4]):
                told = asked(values)
                kept = list(told)
                told.append(99)
                told[0] = 98
                self.assertEqual(asked(values), kept)

    def test_unpacked_is_new(self):
        bits = tight(GOOD)
        told = unpacked(bits)
        kept = [(kind, list(values)) for kind, values in told]
        for kind, values in told:
            values.append(99)
            values[0] = 98
        told.append("more")
        self.assertEqual(unpacked(bits), kept)

    def test_like_blocks_share_no_list(self):
        told = unpacked(packed("plain", [1]) * 2)
        told[0][1].append(2)
        self.assertEqual(told[1], ("plain", [1]))

    def test_asked_twice_it_is_the_same(self):
        for asked in (prices, cuts, tight, best_kind):
            self.assertEqual(asked(GOOD), asked(GOOD))


if __name__ == "__main__":
    unittest.main()
