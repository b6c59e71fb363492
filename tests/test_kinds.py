"""Row kinds and meetings: points [2], [10], [14] and [23]."""

import unittest
from copy import deepcopy
from itertools import product
from random import Random

from tests.objects import Plain, nested, objects, plainly_meets, same, some_book, some_rows, some_schema
from toldbyrest.errors import (
    InvalidBook, InvalidKind, InvalidMeeting, InvalidNumber, InvalidRows, UnknownColumn, UnknownRow, UnknownTable,
)
from toldbyrest.kinds import fits, gives, is_meeting, is_row_kind, row_kinds, view_on
from toldbyrest.schemas import Schema

SCHEMA = Schema({
    "town": ((("id", "town"), ("of", "town"), ("at", "land")), ("old", "busy")),
    "shop": ((("at", "town"),), ("open",)),
    "land": ((("id", "land"),), ()),
    "sea": ((("salt", "salt"),), ("blue",)),
})
YES = ("yes",)
NO = ("not", YES)
OLD = ("flag", "old")
BUSY = ("flag", "busy")
OPEN = ("flag", "open")
SEEN = ("has", "id", "shop", "at", OPEN)
ABOVE = ("has", "of", "town", "id", ("or", OLD, SEEN))
IN_LAND = ("has", "at", "land", "id", YES)
# The looks of a town, in order: SEEN, ABOVE, IN_LAND. A busy town has an open shop; all lie in a land.
BOOK = [("town", ("or", ("not", BUSY), SEEN)), ("town", ("or", ABOVE, ("not", ABOVE))), ("town", IN_LAND)]
ROWS = {
    "town": [((1, 2, 5), (True, True)), ((2, 1, 5), (False, False)), ((2, 2, 6), (False, True))],
    "shop": [((1,), (True,)), ((2,), (False,))],
    "land": [((5,), ()), ((1,), ())],
    "sea": [],
}
KIND = ("town", (False, True), (True, False, True))
MEETING = ("town", (True, False))
CALLS = [
    (row_kinds, ["town"]), (is_row_kind, [KIND]), (is_meeting, [MEETING]), (gives, [KIND, 0]),
    (fits, [KIND, "id", MEETING]), (view_on, [ROWS, "town", 0]),
]
WRONG_KINDS = [
    ("town", (True, True), (False, True, True)), ("town", (True, True), (True, True, False)),
    ("shop", (False, True), (True, False, True)), ("land", (False, True), (True, False, True)),
    ("land", (), (True,)), ("shop", (True,), (True,)), ("shop", (), ()), ("shop", (True, True), ()),
    ("town", (True,), (True, False, True)), ("town", (False, True, True), (True, False, True)),
    ("town", (False, True), (True, True)), ("town", (False, True), (True, True, True, True)), ("town", (False, True), ()),
    ("town", (0, 1), (True, False, True)), ("town", (False, 1), (True, False, True)), ("town", (False, True), (1, 0, 1)),
    ("town", (False, True), (True, 0, True)), ("town", (None, True), (True, False, True)),
    ("town", (False, True), (True, None, True)), ("town", [False, True], (True, False, True)),
    ("town", (False, True), [True, False, True]), ["town", (False, True), (True, False, True)],
    ("town", (False, True)), ("town", (False, True), (True, False, True), ()), ((False, True), (True, False, True)),
    ("town", (True, False, True), (False, True)), ("town", False, True), ("Town", (False, True), (True, False, True)),
    ("city", (False, True), (True, False, True)), (("town",), (False, True), (True, False, True)),
    (["town"], (False, True), (True, False, True)), (None, (False, True), (True, False, True)), "town", ("town",), (KIND,),
    {"town": 1}, {KIND: 1}, [KIND], ("town", "ft", "tft"), ("town", {}, {}), ("land", [], []), ("land", (), None),
]
WRONG_MEETINGS = [
    ("town", (True,)), ("town", (True, False, True)), ("town", ()), ("land", ()), ("land", (True, False)), ("salt", (True,)),
    ("town", (1, 0)), ("town", (True, 0)), ("town", (None, False)), ("town", [True, False]), ["town", (True, False)],
    ("town",), ("town", (True, False), ()), ("town", True, False), ("shop", (True, False)), ("sea", ()), ("id", (True, False)),
    (None, (True, False)), (["town"], (True, False)), ((), ()), "town", (), None, True, 0, {"town": (True, False)},
    ("town", "tf"), ("town", {}), ("town", None), (("town", (True, False)),), ("town", ((True, False),)), KIND,
]


class RowKindsTest(unittest.TestCase):
    def test_row_kinds_keep_the_rules_of_their_table(self):
        expected = [
            ("town", flags, (seen, above, True))
            for flags in product((False, True), repeat=2) for seen in (False, True) for above in (False, True)
            if seen or not flags[1]
        ]
        self.assertEqual(row_kinds(SCHEMA, BOOK, "town"), expected)
        self.assertEqual(expected, sorted(expected))
        self.assertEqual(row_kinds(SCHEMA, BOOK, "shop"), [("shop", (False,), ()), ("shop", (True,), ())])
        self.assertEqual(row_kinds(SCHEMA, BOOK, "land"), [("land", (), ())])

    def test_only_the_has_of_a_rule_itself_is_asked(self):
        # What ABOVE asks of the other town says nothing of the town that looks.
        book = [("town", ABOVE)]
        self.assertEqual([answers for _, _, answers in row_kinds(SCHEMA, book, "town")], [(True, False), (True, True)] * 4)

    def test_no_rules_and_no_row_kinds(self):
        self.assertEqual(len(row_kinds(SCHEMA, [], "town")), 4)
        self.assertEqual(row_kinds(SCHEMA, [], "land"), [("land", (), ())])
        self.assertEqual(row_kinds(SCHEMA, [("town", NO)], "town"), [])
        self.assertEqual(row_kinds(SCHEMA, [("town", NO)], "shop"), [("shop", (False,), ()), ("shop", (True,), ())])
        self.assertEqual(row_kinds(SCHEMA, [("town", OLD), ("town", ("not", OLD))], "town"), [])
        # No row of data can be without a row, itself, that has its id; but it is a row kind.
        itself = ("has", "id", "town", "id", YES)
        book = [("town", ("not", itself)), ("town", OLD), ("town", BUSY)]
        self.assertEqual(row_kinds(SCHEMA, book, "town"), [("town", (True, True), (False,))])

    def test_six_rules_and_equal_rules(self):
        self.assertEqual(row_kinds(SCHEMA, BOOK * 2, "town"), row_kinds(SCHEMA, BOOK, "town"))
        book = [("town", ("or", OLD, BUSY))] * 4 + [("town", ("not", OLD)), ("shop", OPEN)]
        self.assertEqual(row_kinds(SCHEMA, book, "town"), [("town", (False, True), ())])
        self.assertEqual(row_kinds(SCHEMA, book, "shop"), [("shop", (True,), ())])

    def test_three_flags_and_three_looks(self):
        schema = Schema({"a": ((("i", "k"), ("j", "k"), ("l", "m")), ("f", "g", "h"))})
        asks = [("has", "i", "a", "j", ("flag", "f")), ("has", "j", "a", "i", YES), ("has", "l", "a", "l", ("flag", "h"))]
        book = [("a", ("or", asks[0], ("or", asks[1], asks[2])))]
        found = row_kinds(schema, book, "a")
        self.assertEqual(len(found), 8 * 7)
        self.assertEqual(found, sorted(found))
        self.assertEqual(len(row_kinds(schema, [("a", ("or", YES, book[0][1]))], "a")), 64)

    def test_sixteen_levels(self):
        tree = nested(14, lambda part: ("and", part, ("or", part, NO)), ("or", OLD, SEEN))
        expected = [kind for kind in row_kinds(SCHEMA, [("town", ("or", SEEN, YES))], "town") if kind[1][0] or kind[2][0]]
        self.assertEqual(row_kinds(SCHEMA, [("town", tree)], "town"), expected)

    def test_is_row_kind(self):
        views = [
            ("town", flags, answers)
            for flags in product((False, True), repeat=2) for answers in product((False, True), repeat=3)
        ]
        expected = row_kinds(SCHEMA, BOOK, "town")
        self.assertEqual([view for view in views if is_row_kind(SCHEMA, BOOK, view)], expected)
        self.assertIs(is_row_kind(SCHEMA, BOOK, KIND), True)
        self.assertIs(is_row_kind(SCHEMA, BOOK, ("land", (), ())), True)
        self.assertIs(is_row_kind(SCHEMA, BOOK, ("sea", (False,), ())), True)

    def test_no_row_kind(self):
        for thing in WRONG_KINDS:
            with self.subTest(thing):
                self.assertIs(is_row_kind(SCHEMA, BOOK, thing), False)

    def test_is_row_kind_of_any_thing(self):
        for thing in objects():
            with self.subTest(repr(thing)[:60]):
                self.assertIs(is_row_kind(SCHEMA, BOOK, thing), False)
                self.assertIs(is_row_kind(SCHEMA, BOOK, (thing, KIND[1], KIND[2])), False)
                self.assertIs(is_row_kind(SCHEMA, BOOK, ("town", thing, KIND[2])), False)
                self.assertIs(is_row_kind(SCHEMA, BOOK, ("town", KIND[1], thing)), False)
                self.assertIs(is_row_kind(SCHEMA, BOOK, ("land", thing, thing)), same(thing, ()))
                self.assertIs(is_row_kind(SCHEMA, BOOK, ("town", (False, thing), KIND[2])), isinstance(thing, bool))


class MeetingsTest(unittest.TestCase):
    def test_is_meeting(self):
        for one, two in product((False, True), repeat=2):
            self.assertIs(is_meeting(SCHEMA, BOOK, ("town", (one, two))), True)
        for meeting in (("land", (False,)), ("land", (True,)), ("salt", ())):
            self.assertIs(is_meeting(SCHEMA, BOOK, meeting), True)
        for kind in ("town", "land", "salt"):
            self.assertIs(is_meeting(SCHEMA, [], (kind, ())), True)

    def test_no_meeting(self):
        for thing in WRONG_MEETINGS:
            with self.subTest(thing):
                self.assertIs(is_meeting(SCHEMA, BOOK, thing), False)

    def test_any_thing(self):
        for thing in objects():
            with self.subTest(repr(thing)[:60]):
                self.assertIs(is_meeting(SCHEMA, BOOK, thing), False)
                self.assertIs(is_meeting(SCHEMA, BOOK, ("town", thing)), False)
                self.assertIs(is_meeting(SCHEMA, BOOK, (thing, (True, False))), False)
                self.assertIs(is_meeting(SCHEMA, [], (thing, ())), False)
                self.assertIs(is_meeting(SCHEMA, BOOK, ("land", (thing,))), isinstance(thing, bool))
                self.assertIs(is_meeting(SCHEMA, BOOK, ("salt", thing)), same(thing, ()))


class GivesTest(unittest.TestCase):
    def test_a_look_is_given_by_its_other_table(self):
        for number, open_flag in enumerate((False, True)):
            self.assertIs(gives(SCHEMA, BOOK, ("shop", (open_flag,), ()), 0), number == 1)
            self.assertIs(gives(SCHEMA, BOOK, ("shop", (open_flag,), ()), 1), False)
        self.assertIs(gives(SCHEMA, BOOK, ("land", (), ()), 2), True)
        self.assertIs(gives(SCHEMA, BOOK, ("sea", (True,), ()), 2), False)

    def test_looks_within_looks_are_met_as_the_answers_say(self):
        for kind in row_kinds(SCHEMA, BOOK, "town"):
            self.assertIs(gives(SCHEMA, BOOK, kind, 1), kind[1][0] or kind[2][0])
            self.assertIs(gives(SCHEMA, BOOK, kind, 0), False)
            self.assertIs(gives(SCHEMA, BOOK, kind, 2), False)

    def test_invalid_kind_and_number(self):
        for thing in WRONG_KINDS + objects():
            with self.subTest(repr(thing)[:60]):
                self.assertRaises(InvalidKind, gives, SCHEMA, BOOK, thing, 0)
                self.assertRaises(InvalidKind, gives, SCHEMA, BOOK, thing, None)
        for thing in objects() + [3, [0], (0,), "0"]:
            if not same(thing, 0) and not same(thing, 1):
                self.assertRaises(InvalidNumber, gives, SCHEMA, BOOK, KIND, thing)
            self.assertRaises(InvalidNumber, gives, SCHEMA, [], ("land", (), ()), thing)


class FitsTest(unittest.TestCase):
    def test_answers_through_the_column_are_those_of_the_meeting(self):
        # The first answer is that to SEEN, asked through id, the other one to ABOVE, asked through of.
        for kind in row_kinds(SCHEMA, BOOK, "town"):
            _, (old, _), (seen, above, _) = kind
            for meeting in product((False, True), repeat=2):
                at_id = fits(SCHEMA, BOOK, kind, "id", ("town", meeting))
                self.assertIs(at_id, seen == meeting[0] and (meeting[1] or not (old or seen)))
                self.assertIs(fits(SCHEMA, BOOK, kind, "of", ("town", meeting)), above == meeting[1])
                self.assertIs(fits(SCHEMA, BOOK, kind, "at", ("town", meeting)), False)
            self.assertIs(fits(SCHEMA, BOOK, kind, "at", ("land", (True,))), True)
            self.assertIs(fits(SCHEMA, BOOK, kind, "at", ("land", (False,))), False)
            self.assertIs(fits(SCHEMA, BOOK, kind, "id", ("land", (True,))), False)

    def test_nothing_is_given_that_the_meeting_answers_with_false(self):
        for open_flag, (seen, above) in product((False, True), product((False, True), repeat=2)):
            found = fits(SCHEMA, BOOK, ("shop", (open_flag,), ()), "at", ("town", (seen, above)))
            self.assertIs(found, seen or not open_flag)
        for answer in (False, True):
            self.assertIs(fits(SCHEMA, BOOK, ("land", (), ()), "id", ("land", (answer,))), answer)

    def test_a_look_of_a_table_at_itself_through_one_column(self):
        schema = Schema({"a": ((("i", "k"), ("j", "k")), ("f",))})
        book = [("a", ("or", YES, ("has", "i", "a", "i", ("flag", "f"))))]
        for flag, answer, asked in product((False, True), repeat=3):
            kind = ("a", (flag,), (answer,))
            self.assertIs(fits(schema, book, kind, "i", ("k", (asked,))), answer == asked and (asked or not flag))
            self.assertIs(fits(schema, book, kind, "j", ("k", (asked,))), True)

    def test_no_looks(self):
        self.assertIs(fits(SCHEMA, [], ("town", (True, False), ()), "id", ("town", ())), True)
        self.assertIs(fits(SCHEMA, [], ("town", (True, False), ()), "at", ("town", ())), False)

    def test_wrong_arguments(self):
        for thing in WRONG_KINDS + objects():
            with self.subTest(repr(thing)[:60]):
                self.assertRaises(InvalidKind, fits, SCHEMA, BOOK, thing, "id", MEETING)
                self.assertRaises(InvalidKind, fits, SCHEMA, BOOK, thing, thing, thing)
        for thing in objects() + ["old", "town", "salt", ["id"], ("id",)]:
            with self.subTest(repr(thing)[:60]):
                self.assertRaises(UnknownColumn, fits, SCHEMA, BOOK, KIND, thing, MEETING)
                self.assertRaises(UnknownColumn, fits, SCHEMA, BOOK, KIND, thing, thing)
                self.assertRaises(UnknownColumn, fits, SCHEMA, BOOK, ("shop", (True,), ()), "id", MEETING)
        for thing in WRONG_MEETINGS + objects():
            with self.subTest(repr(thing)[:60]):
                self.assertRaises(InvalidMeeting, fits, SCHEMA, BOOK, KIND, "id", thing)
                self.assertRaises(InvalidMeeting, fits, SCHEMA, BOOK, KIND, "at", thing)


class ViewOnTest(unittest.TestCase):
    def test_views(self):
        self.assertEqual(view_on(SCHEMA, BOOK, ROWS, "town", 0), ("town", (True, True), (True, False, True)))
        self.assertEqual(view_on(SCHEMA, BOOK, ROWS, "town", 1), ("town", (False, False), (False, True, True)))
        # No data, and so no row kind: a busy town without an open shop, in no land.
        self.assertEqual(view_on(SCHEMA, BOOK, ROWS, "town", 2), ("town", (False, True), (False, False, False)))
        self.assertEqual(view_on(SCHEMA, BOOK, ROWS, "shop", 1), ("shop", (False,), ()))
        self.assertEqual(view_on(SCHEMA, BOOK, ROWS, "land", 1), ("land", (), ()))
        self.assertEqual(view_on(SCHEMA, [], ROWS, "town", 1), ("town", (False, False), ()))

    def test_many_rows(self):
        town = [((at, at + 1, at), (at == 2998, False)) for at in range(3000)]
        rows = {**ROWS, "town": town, "shop": [], "land": []}
        self.assertEqual(view_on(SCHEMA, BOOK, rows, "town", 2997), ("town", (False, False), (False, True, False)))
        self.assertEqual(view_on(SCHEMA, BOOK, rows, "town", 2999), ("town", (False, False), (False, False, False)))

    def test_wrong_arguments(self):
        for thing in objects():
            with self.subTest(repr(thing)[:60]):
                self.assertRaises(InvalidRows, view_on, SCHEMA, BOOK, thing, "town", 0)
                self.assertRaises(InvalidRows, view_on, SCHEMA, BOOK, thing, thing, thing)
                self.assertRaises(InvalidRows, view_on, SCHEMA, BOOK, {**ROWS, "land": [thing]}, "town", 0)
                self.assertRaises(UnknownTable, view_on, SCHEMA, BOOK, ROWS, thing, 0)
                self.assertRaises(UnknownTable, view_on, SCHEMA, BOOK, ROWS, thing, thing)
                if not same(thing, 0) and not same(thing, 1):
                    self.assertRaises(UnknownRow, view_on, SCHEMA, BOOK, ROWS, "town", thing)
                self.assertRaises(UnknownRow, view_on, SCHEMA, BOOK, ROWS, "sea", thing)
        self.assertRaises(UnknownRow, view_on, SCHEMA, BOOK, ROWS, "town", 3)
        self.assertRaises(InvalidRows, view_on, SCHEMA, BOOK, {**ROWS, "sea": [((1,), (None,))]}, "town", 0)


class AllCallsTest(unittest.TestCase):
    def test_as_the_document_says_it(self):
        random = Random(10)
        views = 0
        for _ in range(120):
            schema = some_schema(random)
            book = some_book(random, schema)
            plain = Plain(schema, book)
            for table in schema.tables:
                self.assertEqual(row_kinds(schema, book, table), plain.row_kinds[table])
                kind = random.choice(plain.row_kinds[table] or [None])
                if kind is not None:
                    self.check_kind(schema, book, plain, kind)
            rows = some_rows(random, schema)
            for table in schema.tables:
                for index, (_, flags) in enumerate(rows[table]):
                    own = [look for look in plain.looks if look[0] == table]
                    answers = tuple(plainly_meets(schema, rows, table, index, ("has",) + look[1:]) for look in own)
                    self.assertEqual(view_on(schema, book, rows, table, index), (table, flags, answers))
                    views += len(own) > 1
        self.assertGreater(views, 20)

    def check_kind(self, schema, book, plain, kind):
        for index, look in enumerate(plain.looks):
            self.assertIs(gives(schema, book, kind, index), plain.gives(kind, look))
        for column, own in schema.columns(kind[0]):
            for meeting in plain.meetings("k") + plain.meetings("m"):
                if schema.places(meeting[0]):
                    self.assertIs(fits(schema, book, kind, column, meeting), plain.fits(kind, column, meeting))

    def test_invalid_book_comes_first(self):
        for call, more in CALLS:
            for thing in objects():
                with self.subTest(f"{call.__name__}: {repr(thing)[:60]}"):
                    if not same(thing, []):
                        self.assertRaises(InvalidBook, call, SCHEMA, thing, *more)
                        self.assertRaises(InvalidBook, call, SCHEMA, thing, *[thing] * len(more))
                    self.assertRaises(InvalidBook, call, SCHEMA, [thing], *more)
            for book in (BOOK * 3, tuple(BOOK), [("town", OPEN)], [("city", YES)], [["town", YES]]):
                self.assertRaises(InvalidBook, call, SCHEMA, book, *more)
                self.assertRaises(InvalidBook, call, SCHEMA, book, *[None] * len(more))

    def test_unknown_table(self):
        for thing in objects() + ["city", "id", KIND]:
            for book in (BOOK, []):
                self.assertRaises(UnknownTable, row_kinds, SCHEMA, book, thing)

    def test_by_name_new_and_arguments_kept(self):
        book, rows = deepcopy(BOOK), deepcopy(ROWS)
        found = row_kinds(table="town", book=book, schema=SCHEMA)
        again = list(found)
        found.clear()
        self.assertEqual(row_kinds(SCHEMA, book, "town"), again)
        self.assertIs(is_row_kind(thing=KIND, book=book, schema=SCHEMA), True)
        self.assertIs(is_meeting(thing=MEETING, book=book, schema=SCHEMA), True)
        self.assertIs(gives(index=1, row_kind=KIND, book=book, schema=SCHEMA), True)
        self.assertIs(fits(meeting=MEETING, column="of", row_kind=KIND, book=book, schema=SCHEMA), True)
        view = view_on(index=0, table="town", rows=rows, book=book, schema=SCHEMA)
        self.assertEqual(view, ("town", (True, True), (True, False, True)))
        reordered = {table: rows[table] for table in reversed(rows)}
        self.assertEqual(view_on(SCHEMA, book, reordered, "town", 0), view)
        self.assertRaises(UnknownRow, view_on, SCHEMA, book, rows, "town", 3)
        self.assertRaises(InvalidNumber, gives, SCHEMA, book, KIND, 3)
        self.assertTrue(same([book, rows], [BOOK, ROWS]))


if __name__ == "__main__":
    unittest.main()
