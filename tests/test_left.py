"""Row kinds that are struck and that are left: points [2], [11], [14] and [24]."""

import unittest
from copy import deepcopy
from itertools import product
from random import Random

from tests.objects import Plain, nested, objects, same, some_book, some_rows, some_schema
from toldbyrest.books import keeps
from toldbyrest.errors import InvalidBook, InvalidKind, UnknownTable
from toldbyrest.kinds import row_kinds, view_on
from toldbyrest.left import can_have_rows, kinds_left, rounds_of_kinds, rows_with
from toldbyrest.rows import are_rows
from toldbyrest.schemas import Schema

SCHEMA = Schema({
    "town": ((("id", "town"), ("of", "town")), ("old",)),
    "shop": ((("at", "town"),), ("open", "big")),
    "land": ((("id", "land"),), ()),
})
YES = ("yes",)
NO = ("not", YES)
OLD = ("flag", "old")
OPEN = ("flag", "open")
ABOVE = ("has", "of", "town", "id", ("not", OLD))
SHOP = ("has", "id", "shop", "at", OPEN)
# An old town has an open shop, and an open shop is at an old town.
BOOK = [("town", ("or", ("not", OLD), SHOP)), ("shop", ("or", ("not", OPEN), ("has", "at", "town", "id", OLD)))]
KIND = ("town", (True,), (True,))
CALLS = [(rounds_of_kinds, []), (kinds_left, ["town"]), (rows_with, [KIND]), (can_have_rows, ["town"])]
WRONG_KINDS = [
    ("town", (True,), (False,)), ("town", (True,), ()), ("town", (True,), (True, True)), ("town", (), (True,)),
    ("town", (True, True), (True,)), ("shop", (True,), (True,)), ("shop", (True, True), (False,)), ("land", (), (True,)),
    ("town", (1,), (True,)), ("town", (True,), (1,)), ("town", (None,), (True,)), ("town", [True], (True,)),
    ["town", (True,), (True,)], ("town", (True,)), ("town", (True,), (True,), ()), ("sea", (True,), (True,)), ("town", "t", "t"),
    ("town", True, True), (None, (True,), (True,)), {KIND: 1}, [KIND], (KIND,),
]


def rounds_then_left(schema, book):
    """Return what the two calls say of the row kinds of a book, side by side."""
    return rounds_of_kinds(schema, book), [kind for table in schema.tables for kind in kinds_left(schema, book, table)]


class RoundsTest(unittest.TestCase):
    def check_all(self, book, expected, schema=SCHEMA):
        """Check what is struck in which round, and that all other row kinds are left."""
        rounds, left = rounds_then_left(schema, book)
        self.assertEqual(rounds, expected)
        self.assertEqual(list(rounds), sorted(rounds))
        self.assertTrue(all(same(number, int(number)) for number in rounds.values()))
        kinds = [kind for table in schema.tables for kind in row_kinds(schema, book, table)]
        self.assertEqual(left, [kind for kind in kinds if kind not in rounds])

    def test_nothing_is_struck(self):
        self.check_all([], {})
        self.check_all([("town", OLD)], {})
        self.check_all([("town", ABOVE)], {})
        # Without row kinds there is nothing to strike.
        self.check_all([("town", NO), ("shop", NO), ("land", NO)], {})

    def test_all_are_struck(self):
        self.check_all([("town", ("and", OLD, ABOVE))], {("town", (True,), (True,)): 1})
        self.check_all([("land", ("not", ("has", "id", "land", "id", YES)))], {("land", (), (False,)): 1})
        schema = Schema({"a": ((("i", "k"), ("j", "k")), ())})
        self.check_all([("a", ("has", "i", "a", "j", ("not", ("has", "i", "a", "j", YES))))], {
            ("a", (), (True, False)): 1, ("a", (), (True, True)): 2,
        }, schema)

    def test_what_a_look_asks_for_is_not_there(self):
        # No shop is open, so no town has an open one.
        self.check_all(
            [("town", ("or", YES, SHOP)), ("shop", ("not", OPEN))],
            {("town", (flag,), (True,)): 1 for flag in (False, True)},
        )
        # Each town has an open shop, but no table can have a shop.
        self.check_all([("town", SHOP), ("shop", NO)], {("town", (flag,), (True,)): 1 for flag in (False, True)})
        self.assertEqual(kinds_left(SCHEMA, [("town", SHOP), ("shop", NO)], "town"), [])

    def test_later_rounds(self):
        # Each row asks for one of the next table through a kind of its own, until the last ones ask in vain.
        schema = Schema({
            "a": ((("i", "k"),), ()), "b": ((("i", "k"), ("j", "m")), ()), "c": ((("j", "m"), ("l", "n")), ()),
            "d": ((("l", "n"),), ("f",)),
        })
        book = [
            ("a", ("has", "i", "b", "i", YES)), ("b", ("has", "j", "c", "j", YES)),
            ("c", ("has", "l", "d", "l", ("flag", "f"))), ("d", ("not", ("flag", "f"))),
        ]
        self.check_all(book, {("c", (), (True,)): 1, ("b", (), (True,)): 2, ("a", (), (True,)): 3}, schema)
        self.check_all(book[:3], {}, schema)

    def test_a_round_goes_by_the_rounds_before_it_alone(self):
        # The second look is answered in vain only behind the round in which the first one strikes.
        book = [("town", ("and", ABOVE, OLD)), ("shop", ("has", "at", "town", "id", OLD))]
        kinds = {("shop", flags, (True,)): 2 for flags in product((False, True), repeat=2)}
        self.check_all(book, {("town", (True,), (True,)): 1, **kinds})

    def test_each_column_counts(self):
        schema = Schema({"a": ((("i", "k"), ("j", "k"), ("l", "k")), ("f",))})
        for column in ("i", "j", "l"):
            # Whoever asks for a row that cannot be is struck, through whichever column.
            never = ("and", ("flag", "f"), ("not", ("flag", "f")))
            book = [("a", ("or", ("not", ("flag", "f")), ("has", column, "a", "j", never)))]
            self.check_all(book, {("a", (False,), (True,)): 1, ("a", (True,), (True,)): 1}, schema)

    def test_who_gives_has_to_fit_the_meeting_itself(self):
        # An old town asks for an open shop without a young town; but each open shop asks for a young town.
        lone = ("has", "id", "shop", "at", ("and", OPEN, ("not", ("has", "at", "town", "id", ("not", OLD)))))
        young = ("or", ("not", OPEN), ("has", "at", "town", "id", ("not", OLD)))
        rounds, left = rounds_then_left(SCHEMA, [("town", ("or", ("not", OLD), lone)), ("shop", young)])
        self.assertEqual(sorted({kind[1][0] for kind in left if kind[0] == "town"}), [False])
        self.assertIn(("town", (True,), (True,)), rounds)

    def test_as_the_document_says_it(self):
        random = Random(11)
        last = {}
        for _ in range(400):
            schema = some_schema(random)
            book = some_book(random, schema)
            expected = Plain(schema, book).rounds_of_kinds()
            self.check_all(book, expected, schema)
            last[max(expected.values(), default=0)] = True
        self.assertEqual(sorted(last)[:3], [0, 1, 2])

    def test_rows_of_data_are_left(self):
        random = Random(14)
        seen = 0
        for _ in range(300):
            schema = some_schema(random)
            book = some_book(random, schema)
            rows = some_rows(random, schema)
            if keeps(schema, book, rows):
                for table in schema.tables:
                    left = kinds_left(schema, book, table)
                    for index in range(len(rows[table])):
                        self.assertIn(view_on(schema, book, rows, table, index), left)
                        seen += 1
        self.assertGreater(seen, 100)


class RowsWithTest(unittest.TestCase):
    def check(self, book, schema=SCHEMA):
        """Check what is returned for all row kinds; return how many rows there are at most."""
        most = 0
        struck = rounds_of_kinds(schema, book)
        for table in schema.tables:
            for kind in row_kinds(schema, book, table):
                found = rows_with(schema, book, kind)
                self.assertEqual(found is None, kind in struck)
                if found is not None:
                    most = max(most, self.check_one(schema, book, kind, found))
        return most

    def check_one(self, schema, book, kind, found):
        self.assertIsInstance(found, tuple)
        rows, index = found
        self.assertTrue(are_rows(schema, rows))
        self.assertEqual(list(rows), schema.tables)
        self.assertTrue(same(index, int(index)))
        self.assertTrue(keeps(schema, book, rows))
        self.assertTrue(same(view_on(schema, book, rows, kind[0], index), kind))
        return sum(len(rows[table]) for table in rows)

    def test_all_row_kinds(self):
        for book in ([], BOOK, BOOK[:1], BOOK[1:], BOOK * 3, [("town", ABOVE)], [("town", ("and", OLD, ABOVE))], [("shop", NO)]):
            self.check(book)

    def test_a_table_without_flags_and_looks(self):
        self.assertEqual(rows_with(SCHEMA, [], ("land", (), ()))[1], 0)
        self.check([], Schema({"a": ((("i", "k"),), ())}))

    def test_three_looks(self):
        schema = Schema({"a": ((("i", "k"), ("j", "k"), ("l", "k")), ("f", "g", "h"))})
        asks = [
            ("has", "i", "a", "j", ("flag", "f")), ("has", "j", "a", "i", ("flag", "g")), ("has", "l", "a", "l", ("flag", "h")),
        ]
        every = ("and", asks[0], ("and", asks[1], asks[2]))
        self.assertLess(self.check([("a", ("or", every, ("not", every)))], schema), 100)
        self.assertLess(self.check([("a", every)], schema), 100)
        inner = ("has", "l", "a", "i", ("and", ("flag", "f"), ("has", "j", "a", "j", ("flag", "g"))))
        within = ("has", "i", "a", "j", ("not", inner))
        self.assertLess(self.check([("a", ("or", within, ("flag", "h")))], schema), 100)

    def test_four_tables(self):
        columns = (("i", "k"), ("j", "k"), ("l", "k"))
        schema = Schema({name: (columns, ("f",)) for name in ("a", "b", "c", "d")})
        chain = ("has", "i", "b", "j", ("has", "i", "c", "l", ("has", "j", "d", "i", ("flag", "f"))))
        self.assertLess(self.check([("a", ("or", chain, ("flag", "f"))), ("d", ("not", ("flag", "f")))], schema), 100)
        self.assertLess(self.check([("a", ("or", chain, ("flag", "f")))], schema), 100)

    def test_two_columns_of_one_kind_at_the_same_place(self):
        schema = Schema({"a": ((("i", "k"), ("j", "k")), ("f",))})
        asks = [("has", "i", "a", "i", ("not", ("flag", "f"))), ("has", "j", "a", "i", ("flag", "f"))]
        self.check([("a", ("or", ("not", ("flag", "f")), asks[0])), ("a", ("or", asks[1], ("flag", "f")))], schema)

    def test_at_random(self):
        random = Random(24)
        for _ in range(300):
            schema = some_schema(random)
            self.assertLess(self.check(some_book(random, schema), schema), 100)

    def test_invalid_kind(self):
        for thing in WRONG_KINDS + objects():
            with self.subTest(repr(thing)[:60]):
                self.assertRaises(InvalidKind, rows_with, SCHEMA, BOOK, thing)
        self.assertRaises(InvalidKind, rows_with, SCHEMA, [], KIND)
        self.assertRaises(InvalidKind, rows_with, SCHEMA, [("town", NO)], ("town", (True,), ()))


class CanHaveRowsTest(unittest.TestCase):
    def test_can(self):
        for table in SCHEMA.tables:
            self.assertIs(can_have_rows(SCHEMA, [], table), True)
            self.assertIs(can_have_rows(SCHEMA, BOOK, table), True)

    def test_cannot(self):
        self.assertIs(can_have_rows(SCHEMA, [("land", NO)], "land"), False)
        self.assertIs(can_have_rows(SCHEMA, [("land", NO)], "town"), True)
        # Each town is old and asks for a young one; each shop asks for a town.
        book = [("town", ("and", OLD, ABOVE)), ("shop", ("has", "at", "town", "id", YES))]
        self.assertEqual([can_have_rows(SCHEMA, book, table) for table in SCHEMA.tables], [True, False, False])
        self.assertEqual([kinds_left(SCHEMA, book, table) for table in SCHEMA.tables], [[("land", (), ())], [], []])


class AllCallsTest(unittest.TestCase):
    def test_invalid_book_comes_first(self):
        for call, more in CALLS:
            for thing in objects():
                with self.subTest(f"{call.__name__}: {repr(thing)[:60]}"):
                    if not same(thing, []):
                        self.assertRaises(InvalidBook, call, SCHEMA, thing, *more)
                        self.assertRaises(InvalidBook, call, SCHEMA, thing, *[thing] * len(more))
                    self.assertRaises(InvalidBook, call, SCHEMA, [thing], *more)
            for book in (BOOK * 4, tuple(BOOK), [("town", OPEN)], [("sea", YES)], [["town", YES]], [("town", YES, YES)]):
                self.assertRaises(InvalidBook, call, SCHEMA, book, *more)
                self.assertRaises(InvalidBook, call, SCHEMA, book, *[None] * len(more))

    def test_unknown_table(self):
        for thing in objects() + ["sea", "id", KIND]:
            for book in (BOOK, []):
                self.assertRaises(UnknownTable, kinds_left, SCHEMA, book, thing)
                self.assertRaises(UnknownTable, can_have_rows, SCHEMA, book, thing)

    def test_sixteen_levels(self):
        tree = nested(13, lambda part: ("and", part, ("or", part, NO)), ("or", ("not", OLD), SHOP))
        self.assertEqual(kinds_left(SCHEMA, [("town", tree)], "town"), kinds_left(SCHEMA, BOOK[:1], "town"))

    def test_by_name_new_and_arguments_kept(self):
        book = deepcopy(BOOK)
        for found in (rounds_of_kinds(book=book, schema=SCHEMA), kinds_left(table="town", book=book, schema=SCHEMA)):
            found.clear()
        self.assertEqual(len(kinds_left(SCHEMA, book, "town")), 3)
        self.assertIs(can_have_rows(table="town", book=book, schema=SCHEMA), True)
        one = rows_with(row_kind=KIND, book=book, schema=SCHEMA)
        two = rows_with(SCHEMA, book, KIND)
        lists = [one[0][table] for table in one[0]] + [two[0][table] for table in two[0]]
        self.assertEqual(len({id(part) for part in lists}), 6)
        for part in lists:
            part.append(None)
        self.assertEqual(view_on(SCHEMA, book, *rows_with(SCHEMA, book, KIND)[:1], "town", 0), KIND)
        self.assertRaises(InvalidKind, rows_with, SCHEMA, book, None)
        self.assertTrue(same(book, BOOK))


if __name__ == "__main__":
    unittest.main()
