"""Tables asked: where, sorted by, groups, joined: [0.2], [4.3]."""

import random
import unittest

from samples import BAD_QUESTIONS, FAR, GREATEST, LEAST, ModelTable, some_joined, some_questions, within
from tightrows.errors import BadQuestion, NoColumn
from tightrows.tables import Table

HEADS = [("age", "number"), ("city", "word"), ("size", "number"), ("street", "word")]
NUMBERS = [None, None, 0, 1, 2, 3, -7, LEAST, GREATEST]
WORDS = [None, None, "rome", "bonn", "oslo", "bo", "bonns", "a", "zzzzzzzzzzzz"]
NEVER = ["b", "bonnz", "nowhere", "zzzz", "aa"]

ROWS = [
    [30, "rome", 5, "main"], [None, "bonn", None, None], [20, None, 7, "side"], [30, "bonn", -2, "main"],
    [None, "rome", 4, "yard"], [20, "oslo", None, "side"],
]

BAD_WHERES = (
    (), ("",), ("all",), ("none",), ("is", 3), ("any", 1), ("any", ("any",)), ("in",), ("in", "age"),
    ("in", "age", ("all",), ("all",)), ("in", "age", ("any",)), ("not",), ("not", ("any",), ("any",)), ("both",),
    ("both", ("any",)), ("both", ("any",), ("any",), ("any",)), ("either",), ("either", ("any",)),
    ("either", ("any",), ("any",), ("any",)), ("not", ("all",)), ("Any",),
)


def filled(rows, heads=HEADS):
    table = Table(heads)
    for row in rows:
        table.put(row)
    return table


def twins(seed, size):
    """A table and its model, with rows that went."""
    source = random.Random(seed)
    table, model = Table(HEADS), ModelTable(HEADS)
    for _ in range(size):
        row = [source.choice(NUMBERS), source.choice(WORDS), source.choice(NUMBERS), source.choice(WORDS)]
        table.put(row)
        model.put(row)
        if source.random() < 0.3:
            gone = source.choice(list(model.rows))
            table.drop(gone)
            del model.rows[gone]
    return table, model


def some_wheres(seed, many):
    numbers = some_questions(seed, [0, 2, -7, GREATEST, FAR, -FAR], 15)
    words = some_questions(seed, ["rome", "bonn", "a"] + NEVER, 25)
    simple = [("any",)] + [("in", name, question) for name in ("age", "size") for question in numbers]
    simple += [("in", name, question) for name in ("city", "street") for question in words]
    source = random.Random(seed)
    return simple + [some_joined(source, simple, source.randint(2, 6)) for _ in range(many)]


WHERES = some_wheres(59, 60)


class Where(unittest.TestCase):
    def hold(self, where, numbers):
        with self.subTest(where=where):
            self.assertEqual(filled(ROWS).where(where), numbers)

    def test_each_kind(self):
        self.hold(("any",), [0, 1, 2, 3, 4, 5])
        self.hold(("in", "age", ("is", 30)), [0, 3])
        self.hold(("in", "age", ("none",)), [1, 4])
        self.hold(("in", "size", ("below", 5)), [3, 4])
        self.hold(("not", ("in", "size", ("below", 5))), [0, 1, 2, 5])
        self.hold(("not", ("any",)), [])
        self.hold(("both", ("in", "age", ("is", 30)), ("in", "city", ("is", "bonn"))), [3])
        self.hold(("either", ("in", "age", ("is", 30)), ("in", "city", ("is", "bonn"))), [0, 1, 3])

    def test_questions_of_words(self):
        self.hold(("in", "city", ("is", "bonn")), [1, 3])
        self.hold(("in", "city", ("among", ["rome", "oslo"])), [0, 4, 5])
        self.hold(("in", "city", ("among", [])), [])
        self.hold(("in", "city", ("none",)), [2])
        self.hold(("in", "city", ("all",)), [0, 1, 2, 3, 4, 5])
        self.hold(("in", "city", ("not", ("is", "bonn"))), [0, 2, 4, 5])
        self.hold(("in", "city", ("both", ("above", "bonn"), ("below", "rome"))), [5])
        self.hold(("in", "city", ("either", ("none",), ("is", "oslo"))), [2, 5])

    def test_below_and_above_as_texts_are_ordered(self):
        # They came as rome, bonn, oslo: another order.
        self.hold(("in", "city", ("below", "oslo")), [1, 3])
        self.hold(("in", "city", ("below", "rome")), [1, 3, 5])
        self.hold(("in", "city", ("above", "bonn")), [0, 4, 5])
        self.hold(("in", "city", ("above", "oslo")), [0, 4])
        self.hold(("in", "city", ("not", ("above", "oslo"))), [1, 2, 3, 5])

    def test_words_that_never_came(self):
        self.hold(("in", "city", ("is", "paris")), [])
        self.hold(("in", "city", ("not", ("is", "paris"))), [0, 1, 2, 3, 4, 5])
        self.hold(("in", "city", ("among", ["paris", "oslo", "main"])), [5])
        self.hold(("in", "city", ("below", "bonnx")), [1, 3])
        self.hold(("in", "city", ("above", "bon")), [0, 1, 3, 4, 5])
        self.hold(("in", "city", ("above", "zzzzzzzzzzzz")), [])
        self.hold(("in", "city", ("below", "a")), [])

    def test_words_whose_rows_went(self):
        table = filled(ROWS)
        table.drop(1)
        table.drop(3)
        self.assertEqual(table.where(("in", "city", ("is", "bonn"))), [])
        self.assertEqual(table.where(("in", "city", ("below", "rome"))), [5])
        table.put([1, "bonn", 1, None])
        self.assertEqual(table.where(("in", "city", ("below", "rome"))), [5, 6])

    def test_asking_gives_no_word_a_number(self):
        table = filled(ROWS)
        bits = table.bits("city")
        table.where(("in", "city", ("is", "paris")))
        table.put([1, "kiew", 1, None])
        other = filled(ROWS + [[1, "kiew", 1, None]])
        self.assertEqual(table.bits("city"), other.bits("city"))
        self.assertNotEqual(table.bits("city"), bits)

    def test_as_row_by_row(self):
        for seed, size in ((61, 1), (62, 6), (63, 20), (64, 50)):
            table, model = twins(seed, size)
            for where in WHERES:
                with self.subTest(seed=seed, where=where):
                    self.assertEqual(table.where(where), model.where(where))

    def test_of_no_rows(self):
        for where in WHERES:
            self.assertEqual(filled([]).where(where), [])


class WhereRefused(unittest.TestCase):
    def refuse(self, error, where):
        for table in (filled(ROWS), filled([])):
            with self.subTest(where=where):
                self.assertRaises(error, table.where, where)
                self.assertRaises(error, table.groups, "age", where, "size")

    def test_no_where(self):
        for where in BAD_WHERES:
            self.refuse(BadQuestion, where)

    def test_deep_within_another(self):
        for where in BAD_WHERES:
            for times in (1, 3, 5):
                self.refuse(BadQuestion, within(where, times))
                for word in ("both", "either"):
                    for place in (1, 2):
                        self.refuse(BadQuestion, within(where, times, word, ("any",), place))

    def test_where_what_stands_beside_it_settles_the_answer(self):
        for bad, error in [(where, BadQuestion) for where in BAD_WHERES] + [(("in", "ages", ("all",)), NoColumn)]:
            self.refuse(error, ("both", ("not", ("any",)), bad))
            self.refuse(error, ("both", bad, ("not", ("any",))))
            self.refuse(error, ("either", ("any",), bad))
            self.refuse(error, ("either", bad, ("any",)))

    def test_no_such_column(self):
        for name in ("ages", "", "Age", "x", "abcdefghi"):
            self.refuse(NoColumn, ("in", name, ("all",)))
            self.refuse(NoColumn, within(("in", name, ("all",)), 5))

    def test_wrong_questions(self):
        for question in BAD_QUESTIONS:
            self.refuse(BadQuestion, ("in", "age", question))
            self.refuse(BadQuestion, ("in", "age", ("not", question)))

    def test_wrong_questions_of_words(self):
        for question in (("is", 3), ("below", 0), ("above", -1), ("among", [1]), ("among", ["a", 1]), ("is", None),
                         ("among", ["a", None]), ("is", "a", "b"), ("is",), ("among", "a"), (), ("any",), ("all", "a"),
                         ("not", ("is", 3)), ("either", ("all",), ("is", 3)), ("both", ("is", "a"), ("is", 3))):
            self.refuse(BadQuestion, ("in", "city", question))
        for question in (("is", "a"), ("below", "a"), ("among", ["a"]), ("among", [1, "a"])):
            self.refuse(BadQuestion, ("in", "age", question))

    def test_texts_that_are_no_words(self):
        for text in ("", "abcdefghijklm", "Rome", "a b", "a1"):
            for question in (("is", text), ("below", text), ("above", text), ("among", ["a", text])):
                self.refuse(BadQuestion, ("in", "city", question))

    def test_what_stands_first(self):
        no_column, bad = ("in", "ages", ("all",)), ("in", "age", ("every",))
        self.refuse(NoColumn, ("in", "ages", ("every",)))
        self.refuse(NoColumn, ("in", "ages", ()))
        for word in ("both", "either"):
            self.refuse(NoColumn, (word, no_column, bad))
            self.refuse(BadQuestion, (word, bad, no_column))
            self.refuse(NoColumn, (word, ("not", no_column), bad))
            self.refuse(BadQuestion, (word, ("not", ("not", bad)), no_column))
            self.refuse(NoColumn, (word, ("any",), (word, no_column, bad)))
            self.refuse(BadQuestion, (word, (word, ("any",), bad), no_column))
            self.refuse(NoColumn, (word, no_column, ()))
            self.refuse(BadQuestion, (word, (), no_column))
            self.refuse(NoColumn, (word, no_column, within(("any",), 6)))
            self.refuse(BadQuestion, (word, within(("any",), 6), no_column))
            self.refuse(BadQuestion, (word, ("in", "age", within(("all",), 6)), no_column))
            self.refuse(NoColumn, (word, no_column, ("in", "age", within(("all",), 6))))
        # What is no where at all stands ahead of what it holds.
        self.refuse(BadQuestion, ("neither", no_column))
        self.refuse(BadQuestion, ("both", no_column))
        self.refuse(BadQuestion, ("not", no_column, no_column))
        self.refuse(BadQuestion, ("in", "ages"))


class Depth(unittest.TestCase):
    def ways(self):
        return [("not", 1), ("both", 1), ("both", 2), ("either", 1), ("either", 2)]

    def test_six_of_where(self):
        table = filled(ROWS)
        for word, place in self.ways():
            for inner in (("any",), ("in", "age", ("is", 30)), ("in", "city", within(("is", "a"), 5))):
                for times in range(6):
                    table.where(within(inner, times, word, ("any",), place))

    def test_six_are_answered(self):
        table = filled(ROWS)
        self.assertEqual(table.where(within(("in", "age", ("is", 30)), 5)), [1, 2, 4, 5])
        self.assertEqual(table.where(within(("in", "age", within(("is", 30), 5)), 5)), [0, 3])
        self.assertEqual(table.where(within(("in", "city", within(("is", "bonn"), 5)), 5)), [1, 3])

    def test_seven_of_where(self):
        for word, place in self.ways():
            for inner in (("any",), ("in", "age", ("is", 30)), ("in", "city", ("all",)), ("in", "ages", ("all",))):
                for times in (6, 7, 20):
                    where = within(inner, times, word, ("any",), place)
                    for table in (filled(ROWS), filled([])):
                        self.assertRaises(BadQuestion, table.where, where)

    def test_the_question_within_is_counted_by_itself(self):
        for name, thing in (("age", 30), ("city", "rome")):
            for word, place in self.ways():
                for times in range(6):
                    good = within(("in", name, within(("is", thing), 5, word, ("all",), place)), times)
                    bad = within(("in", name, within(("is", thing), 6, word, ("all",), place)), times)
                    for table in (filled(ROWS), filled([])):
                        table.where(good)
                        self.assertRaises(BadQuestion, table.where, bad)


class SortedBy(unittest.TestCase):
    def test_numbers(self):
        table = filled(ROWS)
        self.assertEqual(table.sorted_by("age", False), [1, 4, 2, 5, 0, 3])
        self.assertEqual(table.sorted_by("age", True), [0, 3, 2, 5, 1, 4])
        self.assertEqual(table.sorted_by("size", False), [1, 5, 3, 4, 0, 2])
        self.assertEqual(table.sorted_by("size", True), [2, 0, 4, 3, 1, 5])

    def test_words(self):
        table = filled(ROWS)
        self.assertEqual(table.sorted_by("city", False), [2, 1, 3, 5, 0, 4])
        self.assertEqual(table.sorted_by("city", True), [0, 4, 5, 1, 3, 2])

    def test_none_and_like_values_alone(self):
        for row in ([None, None, None, None], [3, "a", 0, "b"]):
            table = filled([row] * 5)
            table.drop(2)
            for name, kind in HEADS:
                self.assertEqual(table.sorted_by(name, False), [0, 1, 3, 4])
                self.assertEqual(table.sorted_by(name, True), [0, 1, 3, 4])

    def test_as_the_rows(self):
        for seed, size in ((71, 0), (72, 1), (73, 10), (74, 50)):
            table, model = twins(seed, size)
            for name, kind in HEADS:
                for falling in (False, True):
                    self.assertEqual(table.sorted_by(name, falling), model.sorted_by(name, falling))

    def test_no_such_column(self):
        for table in (filled(ROWS), filled([])):
            for name in ("ages", "", "x"):
                for falling in (False, True):
                    self.assertRaises(NoColumn, table.sorted_by, name, falling)


class Groups(unittest.TestCase):
    def test_by_numbers(self):
        self.assertEqual(filled(ROWS).groups("age", ("any",), "size"), [(None, 2, 4), (20, 2, 7), (30, 2, 3)])

    def test_by_words(self):
        told = filled(ROWS).groups("city", ("any",), "size")
        self.assertEqual(told, [(None, 1, 7), ("bonn", 2, -2), ("oslo", 1, 0), ("rome", 2, 9)])

    def test_of_rows_where(self):
        table = filled(ROWS)
        self.assertEqual(table.groups("city", ("in", "age", ("is", 30)), "size"), [("bonn", 1, -2), ("rome", 1, 5)])
        self.assertEqual(table.groups("age", ("in", "size", ("none",)), "size"), [(None, 1, 0), (20, 1, 0)])
        self.assertEqual(table.groups("age", ("not", ("any",)), "size"), [])
        self.assertEqual(filled([]).groups("age", ("any",), "size"), [])

    def test_of_the_column_itself(self):
        self.assertEqual(filled(ROWS).groups("age", ("any",), "age"), [(None, 2, 0), (20, 2, 40), (30, 2, 60)])

    def test_triples_are_tuples(self):
        self.assertEqual([type(triple) for triple in filled(ROWS).groups("age", ("any",), "size")], [tuple] * 3)

    def test_as_the_rows(self):
        for seed, size in ((81, 0), (82, 1), (83, 12), (84, 50)):
            table, model = twins(seed, size)
            for where in WHERES[::3]:
                for by, of in (("age", "size"), ("city", "age"), ("street", "size"), ("size", "size")):
                    with self.subTest(seed=seed, by=by, where=where, of=of):
                        self.assertEqual(table.groups(by, where, of), model.groups(by, where, of))

    def test_which_refusal_comes_first(self):
        no_column, bad, good = ("in", "ages", ("all",)), ("every",), ("any",)
        for table in (filled(ROWS), filled([])):
            for where in (no_column, bad, good):
                for of in ("size", "city", "sizes"):
                    self.assertRaises(NoColumn, table.groups, "cities", where, of)
                for by in ("age", "city"):
                    self.assertRaises(NoColumn, table.groups, by, where, "sizes")
                    self.assertRaises(BadQuestion, table.groups, by, where, "city")
                    self.assertRaises(BadQuestion, table.groups, by, where, "street")
            self.assertRaises(NoColumn, table.groups, "age", no_column, "size")
            self.assertRaises(BadQuestion, table.groups, "age", bad, "size")
            self.assertRaises(NoColumn, table.groups, "age", ("both", no_column, bad), "size")
            self.assertRaises(BadQuestion, table.groups, "age", ("both", bad, no_column), "size")


class Joined(unittest.TestCase):
    def other(self):
        return filled([["bonn", 20], [None, 30], ["rome", None], ["bonn", 30]], [("town", "word"), ("years", "number")])

    def test_words(self):
        # The words came to the two columns in another order.
        table, other = filled(ROWS), self.other()
        self.assertEqual(table.joined("city", other, "town"), [(0, 2), (1, 0), (1, 3), (3, 0), (3, 3), (4, 2)])
        self.assertEqual(other.joined("town", table, "city"), [(0, 1), (0, 3), (2, 0), (2, 4), (3, 1), (3, 3)])

    def test_numbers(self):
        table, other = filled(ROWS), self.other()
        self.assertEqual(table.joined("age", other, "years"), [(0, 1), (0, 3), (2, 0), (3, 1), (3, 3), (5, 0)])

    def test_numbers_and_words_are_never_alike(self):
        table = filled([[0, "a", 1, "b"], [1, "b", 0, "a"]])
        self.assertEqual(table.joined("age", table, "city"), [])
        self.assertEqual(table.joined("city", table, "age"), [])

    def test_with_itself(self):
        table = filled(ROWS)
        self.assertEqual(table.joined("age", table, "age"),
                         [(0, 0), (0, 3), (2, 2), (2, 5), (3, 0), (3, 3), (5, 2), (5, 5)])
        self.assertEqual(table.joined("age", table, "size"), [])
        self.assertEqual(table.joined("city", table, "street"), [])

    def test_none_on_both_sides(self):
        table = filled([[None, None, None, None]] * 3)
        for name, kind in HEADS:
            self.assertEqual(table.joined(name, table, name), [])

    def test_of_no_rows(self):
        self.assertEqual(filled([]).joined("age", filled(ROWS), "age"), [])
        self.assertEqual(filled(ROWS).joined("age", filled([]), "age"), [])

    def test_as_the_rows(self):
        for seeds in ((91, 92), (93, 94)):
            (table, model), (other, other_model) = [twins(seed, 35) for seed in seeds]
            for name, kind in HEADS:
                for theirs, their_kind in HEADS:
                    self.assertEqual(table.joined(name, other, theirs), model.joined(name, other_model, theirs))
                    self.assertEqual(table.joined(name, table, theirs), model.joined(name, model, theirs))

    def test_pairs_are_tuples(self):
        self.assertEqual(type(filled(ROWS).joined("age", filled(ROWS), "age")[0]), tuple)

    def test_no_such_column(self):
        for table in (filled(ROWS), filled([])):
            self.assertRaises(NoColumn, table.joined, "ages", self.other(), "years")
            self.assertRaises(NoColumn, table.joined, "age", self.other(), "age")
            self.assertRaises(NoColumn, table.joined, "years", self.other(), "years")
            self.assertRaises(NoColumn, table.joined, "x", self.other(), "y")
            self.assertRaises(NoColumn, table.joined, "age", table, "ages")

    def test_its_own_name_is_refused_ahead_of_a_look_at_the_other(self):
        # Both refusals are NoColumn; only another that can not be looked at tells which came first.
        self.assertRaises(NoColumn, filled(ROWS).joined, "ages", None, "years")


if __name__ == "__main__":
    unittest.main()
