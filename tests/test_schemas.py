"""Names and schemas: points [2], [3] and [15]."""

import unittest
from copy import deepcopy

from tests.objects import objects, same
from toldbyrest.errors import InvalidSchema, UnknownColumn, UnknownFlag, UnknownTable
from toldbyrest.schemas import Schema, is_name

TABLES = {
    "town": ((("id", "town"), ("in", "land")), ("old", "busy")),
    "shop": ((("at", "town"),), ("open",)),
    "land": ((("id", "land"), ("by", "land"), ("seat", "town")), ()),
}
WIDE = ((("a", "k"), ("b", "k"), ("c", "l")), ("d", "e", "f"))


class NamesTest(unittest.TestCase):
    def test_names(self):
        for thing in ["a", "z", "az", "abcdefgh", "zzzzzzzz", "table", "column", "yess", "an", "flags", "nota"]:
            with self.subTest(thing):
                self.assertIs(is_name(thing), True)

    def test_no_names(self):
        things = ["", "abcdefghi", "A", "aB", "a1", "1", "a_b", "a b", " a", "a ", "a\n", "\ta", "a-b", "{", "`", "@"]
        for thing in things + ["and", "or", "not", "has", "yes", "flag", "\xe4", "\xdf", "\u0430"]:
            with self.subTest(thing):
                self.assertIs(is_name(thing), False)

    def test_each_letter(self):
        for code in range(32, 127):
            with self.subTest(code):
                self.assertIs(is_name(chr(code)), ord("a") <= code <= ord("z"))

    def test_any_thing(self):
        for thing in objects():
            with self.subTest(repr(thing)[:60]):
                self.assertIs(is_name(thing), thing == "nowhere")

    def test_by_name(self):
        self.assertIs(is_name(thing="a"), True)


class SchemaTest(unittest.TestCase):
    def setUp(self):
        self.schema = Schema(TABLES)

    def test_tables_ascend(self):
        self.assertEqual(self.schema.tables, ["land", "shop", "town"])
        self.assertIs(type(self.schema.tables), list)

    def test_flag_places_ascend(self):
        self.assertEqual(self.schema.flag_places, [("shop", "open"), ("town", "busy"), ("town", "old")])
        self.assertEqual(Schema({"a": ((("b", "c"),), ())}).flag_places, [])

    def test_columns_and_flags_as_passed(self):
        for table, (columns, flags) in TABLES.items():
            self.assertEqual(self.schema.columns(table), columns)
            self.assertEqual(self.schema.flags(table), flags)

    def test_kind_of(self):
        self.assertEqual(self.schema.kind_of("land", "id"), "land")
        self.assertEqual(self.schema.kind_of("land", "by"), "land")
        self.assertEqual(self.schema.kind_of("land", "seat"), "town")
        self.assertEqual(self.schema.kind_of("town", "id"), "town")

    def test_places_ascend(self):
        self.assertEqual(self.schema.places("town"), [("land", "seat"), ("shop", "at"), ("town", "id")])
        self.assertEqual(self.schema.places("land"), [("land", "by"), ("land", "id"), ("town", "in")])
        self.assertEqual(self.schema.places("shop"), [])
        self.assertEqual(Schema({"a": ((("z", "k"), ("b", "k")), ())}).places("k"), [("a", "b"), ("a", "z")])

    def test_places_of_any_object(self):
        for thing in objects():
            with self.subTest(repr(thing)[:60]):
                self.assertTrue(same(self.schema.places(thing), []))

    def test_unknown_table(self):
        for thing in objects() + ["id", "old"]:
            with self.subTest(repr(thing)[:60]):
                self.assertRaises(UnknownTable, self.schema.columns, thing)
                self.assertRaises(UnknownTable, self.schema.flags, thing)
                self.assertRaises(UnknownTable, self.schema.kind_of, thing, "id")

    def test_unknown_column(self):
        for thing in objects() + ["old", "busy", "at", "town"]:
            with self.subTest(repr(thing)[:60]):
                self.assertRaises(UnknownColumn, self.schema.kind_of, "town", thing)

    def test_unknown_table_ahead_of_unknown_column(self):
        for table in objects():
            for column in objects():
                self.assertRaises(UnknownTable, self.schema.kind_of, table, column)

    def test_flag_at(self):
        self.assertEqual([self.schema.flag_at("town", flag) for flag in ("old", "busy")], [0, 1])
        self.assertRaises(UnknownFlag, self.schema.flag_at, "town", "open")
        self.assertRaises(UnknownTable, self.schema.flag_at, "nowhere", "open")

    def test_by_name(self):
        schema = Schema(tables=TABLES)
        self.assertEqual(schema.columns(table="shop"), (("at", "town"),))
        self.assertEqual(schema.flags(table="shop"), ("open",))
        self.assertEqual(schema.kind_of(table="town", column="in"), "land")
        self.assertEqual(schema.kind_of(column="in", table="town"), "land")
        self.assertEqual(schema.places(kind="town"), self.schema.places("town"))

    def test_lists_are_new(self):
        self.schema.tables.append("more")
        self.schema.flag_places.clear()
        self.schema.places("town").clear()
        self.assertEqual(self.schema.tables, ["land", "shop", "town"])
        self.assertEqual(len(self.schema.flag_places), 3)
        self.assertEqual(len(self.schema.places("town")), 3)
        self.assertIsNot(self.schema.tables, self.schema.tables)
        self.assertIsNot(self.schema.flag_places, self.schema.flag_places)
        self.assertIsNot(self.schema.places("town"), self.schema.places("town"))
        self.assertIsNot(self.schema.places("none"), self.schema.places("none"))

    def test_argument_is_copied_and_kept(self):
        tables = deepcopy(TABLES)
        schema = Schema(tables)
        self.assertEqual(list(tables.items()), list(TABLES.items()))
        del tables["town"]
        tables["shop"] = ((("x", "y"),), ())
        tables["sea"] = ((("x", "y"),), ())
        self.assertEqual(schema, Schema(TABLES))
        self.assertEqual(schema.tables, ["land", "shop", "town"])
        self.assertEqual(schema.columns("shop"), (("at", "town"),))


class WhatSchemasAreMadeFromTest(unittest.TestCase):
    def test_one_to_four_tables(self):
        for many in range(1, 5):
            tables = {"abcd"[at]: WIDE for at in range(many)}
            self.assertEqual(Schema(tables).tables, sorted(tables))
        self.assertRaises(InvalidSchema, Schema, {})
        self.assertRaises(InvalidSchema, Schema, {"abcde"[at]: WIDE for at in range(5)})

    def test_one_to_three_columns(self):
        columns = (("a", "k"), ("b", "k"), ("c", "k"), ("d", "k"))
        for many in range(1, 4):
            self.assertEqual(Schema({"t": (columns[:many], ())}).columns("t"), columns[:many])
        self.assertRaises(InvalidSchema, Schema, {"t": (columns[:0], ())})
        self.assertRaises(InvalidSchema, Schema, {"t": (columns, ())})

    def test_up_to_three_flags(self):
        flags = ("a", "b", "c", "d")
        for many in range(4):
            self.assertEqual(Schema({"t": ((("i", "k"),), flags[:many])}).flags("t"), flags[:many])
        self.assertRaises(InvalidSchema, Schema, {"t": ((("i", "k"),), flags)})

    def test_names_of_eight_letters(self):
        name = "abcdefgh"
        self.assertEqual(Schema({name: (((name, name),), ("b",))}).kind_of(name, name), name)
        self.assertEqual(Schema({name: ((("b", name),), (name,))}).flag_places, [(name, name)])

    def test_wrong_names_in_each_place(self):
        for name in ["abcdefghi", "", "and", "or", "not", "has", "yes", "flag", "A", 1, None, True, ("a",), ["a"]]:
            with self.subTest(name):
                if not isinstance(name, list):
                    self.assertRaises(InvalidSchema, Schema, {name: ((("a", "k"),), ())})
                    self.assertRaises(InvalidSchema, Schema, {"t": WIDE, name: WIDE})
                self.assertRaises(InvalidSchema, Schema, {"t": (((name, "k"),), ())})
                self.assertRaises(InvalidSchema, Schema, {"t": ((("a", name),), ())})
                self.assertRaises(InvalidSchema, Schema, {"t": ((("b", "k"), ("a", name)), ())})
                self.assertRaises(InvalidSchema, Schema, {"t": ((("a", "k"),), (name,))})
                self.assertRaises(InvalidSchema, Schema, {"t": ((("a", "k"),), ("b", name))})

    def test_names_within_a_table_differ(self):
        self.assertRaises(InvalidSchema, Schema, {"t": ((("a", "k"), ("a", "k")), ())})
        self.assertRaises(InvalidSchema, Schema, {"t": ((("a", "k"), ("b", "k"), ("a", "l")), ())})
        self.assertRaises(InvalidSchema, Schema, {"t": ((("a", "k"),), ("b", "b"))})
        self.assertRaises(InvalidSchema, Schema, {"t": ((("a", "k"),), ("b", "c", "b"))})
        self.assertRaises(InvalidSchema, Schema, {"t": ((("a", "k"),), ("a",))})
        self.assertRaises(InvalidSchema, Schema, {"t": ((("b", "k"), ("a", "k")), ("c", "a"))})
        self.assertRaises(InvalidSchema, Schema, {"s": WIDE, "t": ((("a", "k"),), ("a",))})

    def test_other_names_may_be_the_same(self):
        tables = {"a": ((("a", "a"), ("b", "a")), ("c",)), "b": ((("a", "b"), ("c", "c")), ("b",))}
        schema = Schema(tables)
        self.assertEqual(schema.places("a"), [("a", "a"), ("a", "b")])
        self.assertEqual(schema.flag_places, [("a", "c"), ("b", "b")])

    def test_lists_in_the_place_of_tuples_and_other_wrong_parts(self):
        wrong = [
            [(("a", "k"),), ()], ([("a", "k")], ()), ((["a", "k"],), ()), ((("a", "k"),), []),
            ((("a", "k"),), ["b"]), ((("a", "k"),), "b"), ((("a", "k"),), None), ((("a", "k"),), (None,)),
            ((("a", "k"),),), ((("a", "k"),), (), ()), ((("a",),), ()), ((("a", "k", "l"),), ()), (("ak",), ()),
            ("ab", ()), ({"a": "k"}, ()), (({"a": 1, "k": 1},), ()), ((("a", "k"),), {"b": 1}), (("a", "k"), ()),
            (("a", "k"), ("b",)), ((("a", "k"),), ("b",), "c"), (), "ab", {"a": 1, "b": 2}, None, 0, True,
        ]
        for table in wrong:
            with self.subTest(table):
                self.assertRaises(InvalidSchema, Schema, {"t": table})
                self.assertRaises(InvalidSchema, Schema, {"t": WIDE, "s": table})

    def test_any_object(self):
        for thing in objects() + [[("t", WIDE)], (("t", WIDE),), Schema({"t": WIDE})]:
            with self.subTest(repr(thing)[:60]):
                self.assertRaises(InvalidSchema, Schema, thing)
                self.assertRaises(InvalidSchema, Schema, {"t": thing})
                self.assertRaises(InvalidSchema, Schema, {"t": ((thing,), ())})
                if thing != (("id", "town"),):
                    self.assertRaises(InvalidSchema, Schema, {"t": (thing, ())})
                if thing not in ((), ("town",)):
                    self.assertRaises(InvalidSchema, Schema, {"t": ((("id", "town"),), thing)})

    def test_argument_is_kept_behind_an_error(self):
        tables = {"t": WIDE, "s": ([("a", "k")], ["b"])}
        before = deepcopy(tables)
        self.assertRaises(InvalidSchema, Schema, tables)
        self.assertTrue(same(tables, before))


class EqualSchemasTest(unittest.TestCase):
    def test_equal(self):
        self.assertIs(Schema(TABLES) == Schema(dict(reversed(TABLES.items()))), True)
        self.assertIs(Schema(TABLES) != Schema(deepcopy(TABLES)), False)

    def test_not_equal(self):
        town, shop = TABLES["town"], TABLES["shop"]
        others = [
            {"town": town}, {"town": town, "shop": shop, "sea": shop}, {"town": shop, "shop": town},
            {"town": (town[0][::-1], town[1]), "shop": shop}, {"town": (town[0], town[1][::-1]), "shop": shop},
            {"town": (town[0], ("old", "calm")), "shop": shop}, {"town": (town[0], ("old",)), "shop": shop},
            {"town": town, "shop": ((("at", "land"),), ("open",))}, {"town": town, "shop": ((("by", "town"),), ("open",))},
            {"city": town, "shop": shop},
        ]
        for tables in others:
            with self.subTest(tables):
                self.assertIs(Schema({"town": town, "shop": shop}) == Schema(tables), False)
                self.assertIs(Schema({"town": town, "shop": shop}) != Schema(tables), True)

    def test_any_object(self):
        for thing in objects() + [TABLES, object()]:
            with self.subTest(repr(thing)[:60]):
                self.assertIs(Schema(TABLES) == thing, False)
                self.assertIs(Schema(TABLES) != thing, True)


if __name__ == "__main__":
    unittest.main()
