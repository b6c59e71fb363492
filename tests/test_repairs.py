"""Repairs: points [2], [7] and [37]."""

import unittest
from copy import deepcopy
from itertools import combinations
from random import Random

from tests.objects import exactly, objects, same, some_book, some_rows, some_schema, some_telling_book
from toldbyrest.errors import InvalidBook, InvalidLacking, InvalidRows
from toldbyrest.fillings import how_many
from toldbyrest.lacking import bare, is_lacking
from toldbyrest.repairs import fewest_turns
from toldbyrest.schemas import Schema

SCHEMA = Schema({
    "town": ((("id", "town"), ("of", "town")), ("old", "busy")),
    "shop": ((("at", "town"),), ("open",)),
    "land": ((("id", "land"),), ()),
})
OF_TOWN = [("town", "busy")]
YES = ("yes",)
NO = ("not", YES)
OLD = ("flag", "old")
BUSY = ("flag", "busy")
OPEN = ("flag", "open")
SEEN = ("has", "id", "shop", "at", OPEN)
BOOK = [("town", exactly("busy", SEEN))]


def town(value, old, busy=None):
    """Return a town without a town that it is in."""
    return ((value, value), (old, busy))


def with_turned(schema, rows, turns):
    """Return rows with some flags turned, each a tuple (table, index, flag)."""
    return {
        table: [
            (values, tuple(
                flag if (table, index, name) not in turns else not flag for name, flag in zip(schema.flags(table), flags)
            ))
            for index, (values, flags) in enumerate(rows[table])
        ]
        for table in rows
    }


def plainly_fewest(schema, book, lacking, rows):
    """Try all lists in the order of [37]."""
    kept = sorted(
        (table, index, name)
        for table in schema.tables for index in range(len(rows[table]))
        for name in schema.flags(table) if (table, name) not in lacking
    )
    for many in range(len(kept) + 1):
        for turns in combinations(kept, many):
            if how_many(schema, book, lacking, with_turned(schema, rows, turns)):
                return list(turns)
    return None


class RepairsTest(unittest.TestCase):
    def check(self, book, rows, expected, lacking=OF_TOWN, schema=SCHEMA):
        self.assertTrue(same(fewest_turns(schema, book, lacking, rows), expected))
        self.assertEqual(plainly_fewest(schema, book, lacking, rows), expected)

    def test_rows_that_have_a_filling_already(self):
        rows = {"town": [town(1, True), town(2, False)], "shop": [((1,), (True,)), ((2,), (False,))], "land": []}
        self.check(BOOK, rows, [])
        self.check([], rows, [])
        self.check([], {"town": [], "shop": [], "land": []}, [])
        self.check([("town", NO), ("shop", NO)], {"town": [], "shop": [], "land": [((1,), ())]}, [])

    def test_rows_that_have_none_whatever_is_turned(self):
        rows = {"town": [town(1, True)], "shop": [], "land": [((4,), ())]}
        self.check([("town", NO)], rows, None)
        self.check([("land", NO)], rows, None)
        self.check(BOOK + [("town", BUSY)], rows, None)
        self.check([("town", ("has", "id", "shop", "at", YES))], rows, None)

    def test_the_first_of_several_shortest_lists(self):
        book = BOOK + [("town", BUSY)]
        rows = {"town": [town(1, True), town(2, False)], "shop": [((value,), (False,)) for value in (2, 2, 1, 1)], "land": []}
        self.check(book, rows, [("shop", 0, "open"), ("shop", 2, "open")])
        self.check(book, dict(rows, shop=rows["shop"][:1] + [((1,), (True,))] * 2), [("shop", 0, "open")])
        # Towns that are old make one of them.
        either = [("town", ("or", OLD, SEEN))]
        self.check(either, {"town": [town(1, False)], "shop": [((1,), (False,))], "land": []}, [("shop", 0, "open")])
        self.check(either, {"town": [town(1, False)], "shop": [((2,), (False,))], "land": []}, [("town", 0, "old")])
        self.check([("town", ("and", OLD, SEEN))], {"town": [town(1, False)], "shop": [((1,), (False,))], "land": []},
                   [("shop", 0, "open"), ("town", 0, "old")])

    def test_the_order_is_that_of_the_names(self):
        # The flags stand in another order in the schema, and so do the tables.
        schema = Schema({"b": ((("i", "k"),), ("z", "a")), "a": ((("i", "k"),), ("y",))})
        rows = {"b": [((1,), (False, False)), ((1,), (False, False))], "a": [((1,), (False,))]}
        either = ("or", ("flag", "z"), ("flag", "a"))
        self.check([("b", either)], rows, [("b", 0, "a"), ("b", 1, "a")], [], schema)
        some = ("has", "i", "b", "i", either)
        self.check([("a", ("or", some, ("flag", "y")))], rows, [("a", 0, "y")], [], schema)
        self.check([("a", ("and", some, ("flag", "y")))], rows, [("a", 0, "y"), ("b", 0, "a")], [], schema)

    def test_lacking_flags_are_not_turned(self):
        rows = {"town": [town(1, True), town(2, True)], "shop": [((1,), (None,)), ((2,), (None,))], "land": []}
        lacking = [("shop", "open"), ("town", "busy")]
        self.check(BOOK + [("town", exactly("old", BUSY))], rows, [], lacking)
        self.check(BOOK + [("town", exactly("old", ("not", BUSY))), ("shop", OPEN)], rows, [("town", 0, "old"), ("town", 1, "old")], lacking)

    def test_eight_kept_and_six_lacking_flags(self):
        schema = Schema({"a": ((("i", "k"), ("j", "k")), ("f", "g")), "b": ((("i", "k"),), ("h",))})
        look = ("has", "j", "a", "i", ("and", ("flag", "f"), ("flag", "g")))
        rows = {"a": [((at, (at + 1) // 2), (at < 3, None)) for at in range(6)], "b": [((7,), (False,)), ((8,), (False,))]}
        lacking = [("a", "g")]
        book = [("a", exactly("f", look)), ("a", ("or", ("flag", "g"), look)), ("b", ("flag", "h"))]
        self.assertEqual(sum(flags.count(None) for _, flags in rows["a"]), 6)
        for some in (book, book[:1], book[1:], book[:2] + [("a", ("not", ("flag", "g")))]):
            self.assertTrue(same(fewest_turns(schema, some, lacking, rows), plainly_fewest(schema, some, lacking, rows)))
        all_of_them = [("a", ("not", ("flag", "f"))), ("b", ("flag", "h"))]
        rows = {"a": [(values, (True, None)) for values, _ in rows["a"]], "b": rows["b"]}
        every = [("a", index, "f") for index in range(6)] + [("b", 0, "h"), ("b", 1, "h")]
        self.assertEqual(fewest_turns(schema, all_of_them, lacking, rows), every)

    def test_many_rows_without_flags(self):
        schema = Schema({"a": ((("i", "k"),), ("f",)), "b": ((("i", "k"),), ())})
        rows = {"a": [((number,), (False,)) for number in range(8)], "b": [((number,), ()) for number in range(4, 2900)]}
        book = [("a", exactly("f", ("has", "i", "b", "i", YES))), ("b", ("has", "i", "b", "i", YES))]
        self.assertEqual(fewest_turns(schema, book, [], rows), [("a", index, "f") for index in range(4, 8)])
        self.assertIsNone(fewest_turns(schema, book + [("b", ("has", "i", "a", "i", YES))], [], rows))

    def test_at_random(self):
        random = Random(37)
        seen = {}
        for turn in range(500):
            schema = some_schema(random)
            book, lacking = some_telling_book(random, schema) if schema.flag_places else ([], [])
            if turn % 3 == 0:
                book, lacking = some_book(random, schema), schema.flag_places[:1]
            rows = bare(schema, some_rows(random, schema), lacking)
            flags = [flag for table in rows for _, row in rows[table] for flag in row]
            if flags.count(None) <= 4 and len(flags) - flags.count(None) <= 6:
                expected = plainly_fewest(schema, book, lacking, rows)
                self.assertTrue(same(fewest_turns(schema, book, lacking, rows), expected))
                seen[None if expected is None else len(expected)] = True
        self.assertTrue({None, 0, 1, 2, 3} <= set(seen))

    def test_errors_for_any_objects(self):
        rows = {"town": [town(1, True)], "shop": [], "land": []}
        for thing in objects():
            with self.subTest(repr(thing)[:60]):
                if not same(thing, []):
                    self.assertRaises(InvalidBook, fewest_turns, SCHEMA, thing, OF_TOWN, rows)
                    self.assertRaises(InvalidBook, fewest_turns, SCHEMA, thing, thing, thing)
                    self.assertRaises(InvalidRows, fewest_turns, SCHEMA, BOOK, OF_TOWN, dict(rows, town=thing))
                self.assertRaises(InvalidBook, fewest_turns, SCHEMA, [thing], OF_TOWN, rows)
                if not is_lacking(SCHEMA, thing):
                    self.assertRaises(InvalidLacking, fewest_turns, SCHEMA, BOOK, thing, rows)
                    self.assertRaises(InvalidLacking, fewest_turns, SCHEMA, BOOK, thing, thing)
                self.assertRaises(InvalidRows, fewest_turns, SCHEMA, BOOK, OF_TOWN, thing)
                self.assertRaises(InvalidRows, fewest_turns, SCHEMA, BOOK, OF_TOWN, dict(rows, town=[thing]))

    def test_wrong_arguments(self):
        rows = {"town": [town(1, True)], "shop": [], "land": []}
        for book in (BOOK * 7, tuple(BOOK), [list(BOOK[0])], [("shop", BUSY)]):
            self.assertRaises(InvalidBook, fewest_turns, SCHEMA, book, None, None)
        for lacking in (OF_TOWN * 2, tuple(OF_TOWN), [["town", "busy"]], [("town", "id")], [("town",)]):
            self.assertRaises(InvalidLacking, fewest_turns, SCHEMA, BOOK, lacking, None)
        # Lacking flags that are there, and kept ones that are not.
        for flags in ((True, True), (None, None), (None, True), (1, None), (True, 0), (True,), (True, None, None), [True, None]):
            self.assertRaises(InvalidRows, fewest_turns, SCHEMA, BOOK, OF_TOWN, dict(rows, town=[((1, 1), flags)]))
        self.assertRaises(InvalidRows, fewest_turns, SCHEMA, BOOK, [], rows)

    def test_by_name_new_and_arguments_kept(self):
        book, lacking = BOOK + [("town", BUSY)], list(OF_TOWN)
        rows = {"town": [town(1, True)], "shop": [((1,), (False,))], "land": []}
        given = deepcopy([book, lacking, rows])
        found = fewest_turns(rows=rows, lacking=lacking, book=book, schema=SCHEMA)
        self.assertEqual(found, [("shop", 0, "open")])
        found.clear()
        self.assertEqual(fewest_turns(SCHEMA, book, lacking, rows), [("shop", 0, "open")])
        self.assertRaises(InvalidRows, fewest_turns, SCHEMA, book, [], rows)
        self.assertTrue(same([book, lacking, rows], given))


if __name__ == "__main__":
    unittest.main()
