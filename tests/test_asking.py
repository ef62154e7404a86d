"""What a question is, and what answers it: [3.1]."""

import unittest

from samples import BAD_QUESTIONS, FAR, GREATEST, LEAST, within
from tightrows.columns import Column
from tightrows.errors import BadQuestion

VALUES = [3, None, -5, LEAST, 3, GREATEST, None, 0, 4]
NOT_NONE = [0, 2, 3, 4, 5, 7, 8]
ALL = list(range(9))


def askings(column):
    return (column.rows, column.how_many, column.total, column.ends)


class EachKind(unittest.TestCase):
    def hold(self, question, rows):
        with self.subTest(question=question):
            self.assertEqual(Column(VALUES).rows(question), rows)
            self.assertEqual(Column(VALUES).rows(("not", question)), [row for row in ALL if row not in rows])

    def test_all_and_none(self):
        self.hold(("all",), ALL)
        self.hold(("none",), [1, 6])

    def test_is(self):
        self.hold(("is", 3), [0, 4])
        self.hold(("is", 0), [7])
        self.hold(("is", LEAST), [3])
        self.hold(("is", GREATEST), [5])
        self.hold(("is", 1), [])

    def test_below(self):
        self.hold(("below", 3), [2, 3, 7])
        self.hold(("below", 4), [0, 2, 3, 4, 7])
        self.hold(("below", LEAST), [])
        self.hold(("below", LEAST + 1), [3])
        self.hold(("below", GREATEST + 1), NOT_NONE)

    def test_above(self):
        self.hold(("above", 3), [5, 8])
        self.hold(("above", 2), [0, 4, 5, 8])
        self.hold(("above", GREATEST), [])
        self.hold(("above", GREATEST - 1), [5])
        self.hold(("above", LEAST - 1), NOT_NONE)

    def test_among(self):
        self.hold(("among", [3, 0, 17]), [0, 4, 7])
        self.hold(("among", [0, 3, 3, 0]), [0, 4, 7])
        self.hold(("among", [LEAST, GREATEST]), [3, 5])
        self.hold(("among", []), [])
        self.hold(("among", [1, 2]), [])

    def test_numbers_of_15_figures(self):
        for far in (FAR, FAR - 1, GREATEST + 1, 10 ** 14):
            for number in (far, -far):
                self.hold(("is", number), [])
                self.hold(("among", [number, -number]), [])
                self.hold(("among", [number, 3]), [0, 4])
            self.hold(("below", far), NOT_NONE)
            self.hold(("above", far), [])
            self.hold(("below", -far), [])
            self.hold(("above", -far), NOT_NONE)

    def test_nothing_is_refused_for_more_figures(self):
        self.hold(("below", FAR * 1000), NOT_NONE)
        self.hold(("among", [FAR * 1000, 4]), [8])

    def test_not_both_either(self):
        self.hold(("not", ("none",)), NOT_NONE)
        self.hold(("not", ("not", ("is", 3))), [0, 4])
        self.hold(("both", ("above", -6), ("below", 4)), [0, 2, 4, 7])
        self.hold(("both", ("none",), ("not", ("is", 3))), [1, 6])
        self.hold(("both", ("all",), ("among", [])), [])
        self.hold(("either", ("is", 4), ("none",)), [1, 6, 8])
        self.hold(("either", ("above", 3), ("below", 0)), [2, 3, 5, 8])
        self.hold(("either", ("among", []), ("is", 1)), [])


class OfNone(unittest.TestCase):
    def test_none_answers_none_and_all_alone(self):
        column = Column([None])
        for question in (("all",), ("none",)):
            self.assertEqual(column.rows(question), [0])
            self.assertEqual(column.rows(("not", question)), [])
        for number in (0, -4000001, LEAST, GREATEST, FAR, -FAR):
            for question in (("is", number), ("below", number), ("above", number), ("among", [number]), ("among", [])):
                self.assertEqual(column.rows(question), [])
                self.assertEqual(column.rows(("not", question)), [0])

    def test_0_is_not_none(self):
        self.assertEqual(Column([0]).rows(("none",)), [])
        self.assertEqual(Column([None]).rows(("is", 0)), [])


class Within(unittest.TestCase):
    def ways(self):
        told = [("not", ("all",), 1)]
        for beside in (("all",), ("none",), ("is", 3)):
            told += [(word, beside, place) for word in ("both", "either") for place in (1, 2)]
        return told

    def test_one_to_six(self):
        for word, beside, place in self.ways():
            for inner in (("all",), ("is", 3), ("among", [3]), ("none",)):
                for times in range(6):
                    question = within(inner, times, word, beside, place)
                    for column in (Column(VALUES), Column([])):
                        for asked in askings(column):
                            asked(question)

    def test_six_are_answered(self):
        column = Column(VALUES)
        self.assertEqual(column.rows(within(("is", 3), 5)), [1, 2, 3, 5, 6, 7, 8])
        self.assertEqual(column.rows(within(("is", 3), 4)), [0, 4])
        self.assertEqual(column.rows(within(("is", 3), 5, "either", ("none",), 2)), [0, 1, 4, 6])
        self.assertEqual(column.rows(within(("is", 3), 5, "both", ("all",), 1)), [0, 4])

    def test_seven_and_more(self):
        for word, beside, place in self.ways():
            for times in (6, 7, 8, 20):
                for inner in (("all",), ("is", 3)):
                    question = within(inner, times, word, beside, place)
                    for column in (Column(VALUES), Column([])):
                        for asked in askings(column):
                            self.assertRaises(BadQuestion, asked, question)

    def test_seven_in_one_part_alone(self):
        for deep in (within(("all",), 6), within(("all",), 5, "both", ("all",), 2)):
            for question in (("both", ("among", []), deep), ("both", deep, ("among", [])),
                             ("either", ("all",), deep), ("either", deep, ("all",))):
                self.assertRaises(BadQuestion, Column(VALUES).rows, question)

    def test_six_in_both_parts(self):
        deep = within(("none",), 4)
        self.assertEqual(Column(VALUES).rows(("both", deep, deep)), [1, 6])
        self.assertEqual(Column(VALUES).rows(("either", deep, deep)), [1, 6])


class Refused(unittest.TestCase):
    def refuse(self, question):
        for column in (Column(VALUES), Column([]), Column([None])):
            for asked in askings(column):
                with self.subTest(question=question, asked=asked.__name__):
                    self.assertRaises(BadQuestion, asked, question)

    def test_no_question(self):
        for question in BAD_QUESTIONS:
            self.refuse(question)

    def test_deep_within_another(self):
        for question in BAD_QUESTIONS:
            for times in (1, 2, 5):
                self.refuse(within(question, times))
                for word in ("both", "either"):
                    for place in (1, 2):
                        self.refuse(within(question, times, word, ("is", 3), place))

    def test_where_what_stands_beside_it_settles_the_answer(self):
        for question in BAD_QUESTIONS:
            self.refuse(("both", ("among", []), question))
            self.refuse(("both", question, ("among", [])))
            self.refuse(("either", ("all",), question))
            self.refuse(("either", question, ("all",)))

    def test_a_refused_question_leaves_the_column(self):
        column = Column(VALUES)
        bits = column.bits()
        for question in BAD_QUESTIONS:
            for asked in askings(column):
                self.assertRaises(BadQuestion, asked, question)
        self.assertEqual((column.told(), column.bits()), (VALUES, bits))


if __name__ == "__main__":
    unittest.main()
