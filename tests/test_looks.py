"""Looks: points [2], [9] and [22]."""

import unittest
from copy import deepcopy
from random import Random

from tests.objects import Plain, nested, objects, same, some_book, some_schema
from toldbyrest.errors import InvalidBook, UnknownColumn, UnknownTable
from toldbyrest.looks import looks, looks_into, looks_through, own_looks
from toldbyrest.schemas import Schema

SCHEMA = Schema({
    "town": ((("id", "town"), ("of", "town"), ("in", "land")), ("old", "busy")),
    "shop": ((("id", "town"), ("by", "shop")), ("open",)),
    "land": ((("id", "land"),), ()),
})
YES = ("yes",)
OLD = ("flag", "old")
BUSY = ("flag", "busy")
OPEN = ("flag", "open")
SELF = ("has", "id", "town", "id", OLD)
SHOP = ("has", "id", "shop", "id", OPEN)
# The middle look stands in the outer one, and the inner one in the middle one.
INNER = ("has", "by", "shop", "by", YES)
MIDDLE = ("has", "id", "shop", "id", ("and", INNER, OPEN))
OUTER = ("has", "id", "town", "in", ("or", BUSY, MIDDLE))
NEST = [("land", OUTER), ("shop", ("not", INNER))]
NEST_LOOKS = [("land",) + OUTER[1:], ("town",) + MIDDLE[1:], ("shop",) + INNER[1:]]
CALLS = [
    (looks, []), (own_looks, ["town"]), (looks_into, ["shop", "id"]), (looks_through, ["town"]),
]


class LooksTest(unittest.TestCase):
    def test_looks_within_looks_in_the_order_in_which_they_begin(self):
        self.assertEqual(looks(SCHEMA, NEST), NEST_LOOKS)
        self.assertEqual(looks(SCHEMA, NEST[::-1]), NEST_LOOKS[2:] + NEST_LOOKS[:2])
        self.assertEqual(looks(SCHEMA, [("town", ("or", SHOP, MIDDLE))]), [("town",) + SHOP[1:]] + NEST_LOOKS[1:])
        self.assertEqual(looks(SCHEMA, [("town", ("or", MIDDLE, SHOP))]), NEST_LOOKS[1:] + [("town",) + SHOP[1:]])

    def test_equal_looks_count_once_where_they_begin_first(self):
        book = [("town", ("and", SELF, ("not", SELF))), ("town", ("or", SHOP, SELF)), ("town", SELF)]
        self.assertEqual(looks(SCHEMA, book), [("town",) + SELF[1:], ("town",) + SHOP[1:]])
        self.assertEqual(looks(SCHEMA, book[1:]), [("town",) + SHOP[1:], ("town",) + SELF[1:]])
        self.assertEqual(looks(SCHEMA, deepcopy(NEST) + deepcopy(NEST) + NEST[:1]), NEST_LOOKS)
        # The inner one of an outer one is met again by itself.
        self.assertEqual(looks(SCHEMA, [("town", MIDDLE), ("land", OUTER)]), NEST_LOOKS[1:] + NEST_LOOKS[:1])

    def test_what_differs_in_one_part_is_another_look(self):
        one = ("has", "id", "town", "id", OLD)
        for part in (("has", "of", "town", "id", OLD), ("has", "id", "town", "of", OLD), ("has", "id", "town", "id", BUSY)):
            self.assertEqual(len(looks(SCHEMA, [("town", ("or", one, part))])), 2)
        other = ("has", "id", "shop", "id", YES)
        self.assertEqual(looks(SCHEMA, [("town", ("or", ("has", "id", "town", "id", YES), other))])[1][2], "shop")
        # The same parts count twice if rows of two tables look.
        self.assertEqual(
            looks(SCHEMA, [("town", other), ("shop", other)]), [("town",) + other[1:], ("shop",) + other[1:]]
        )
        alike = ("has", "id", "shop", "id", ("not", ("not", OPEN)))
        self.assertEqual(len(looks(SCHEMA, [("town", ("or", SHOP, alike))])), 2)

    def test_no_looks(self):
        self.assertEqual(looks(SCHEMA, []), [])
        self.assertEqual(looks(SCHEMA, [("town", OLD), ("land", YES)]), [])

    def test_six_rules(self):
        book = [("town", SELF), ("town", SELF), ("land", YES), ("shop", OPEN), ("town", SHOP), ("town", ("not", SELF))]
        self.assertEqual(looks(SCHEMA, book), [("town",) + SELF[1:], ("town",) + SHOP[1:]])

    def test_sixteen_levels(self):
        deep = nested(15, lambda part: ("not", part), SELF)
        self.assertEqual(looks(SCHEMA, [("town", deep)]), [("town",) + SELF[1:]])
        wide = nested(15, lambda part: ("and", part, part), ("or", ("not", SELF), SHOP))
        self.assertEqual(looks(SCHEMA, [("town", wide)]), [("town",) + SELF[1:], ("town",) + SHOP[1:]])
        copies = nested(11, lambda part: ("or", part, deepcopy(part)), ("not", MIDDLE))
        self.assertEqual(looks(SCHEMA, [("town", copies)] * 6), NEST_LOOKS[1:])

    def test_own_looks(self):
        self.assertEqual([own_looks(SCHEMA, NEST, table) for table in ("land", "town", "shop")], [[0], [1], [2]])
        book = [("town", SELF), ("shop", ("has", "id", "town", "id", BUSY)), ("town", ("or", SHOP, SELF))]
        self.assertEqual([own_looks(SCHEMA, book, table) for table in ("land", "town", "shop")], [[], [0, 2], [1]])
        self.assertEqual(own_looks(SCHEMA, [], "town"), [])

    def test_looks_into(self):
        self.assertEqual(looks_into(SCHEMA, NEST, "town", "in"), [0])
        self.assertEqual(looks_into(SCHEMA, NEST, "shop", "id"), [1])
        self.assertEqual(looks_into(SCHEMA, NEST, "shop", "by"), [2])
        for table, column in (("town", "id"), ("town", "of"), ("land", "id")):
            self.assertEqual(looks_into(SCHEMA, NEST, table, column), [])
        book = [("town", ("or", SELF, ("has", "of", "town", "id", YES))), ("shop", ("has", "id", "town", "id", OLD))]
        self.assertEqual(looks_into(SCHEMA, book, "town", "id"), [0, 1, 2])
        self.assertEqual(looks_into(SCHEMA, book, "town", "of"), [])

    def test_looks_through(self):
        self.assertEqual([looks_through(SCHEMA, NEST, kind) for kind in ("land", "town", "shop")], [[0], [1], [2]])
        book = [("town", ("or", SELF, ("has", "in", "land", "id", YES))), ("shop", ("has", "id", "town", "of", OLD))]
        self.assertEqual([looks_through(SCHEMA, book, kind) for kind in ("land", "town", "shop")], [[1], [0, 2], []])

    def test_looks_through_any_object(self):
        for thing in objects() + ["sea", "id", ("town",), ["town"]]:
            with self.subTest(repr(thing)[:60]):
                self.assertEqual(looks_through(SCHEMA, NEST, thing), [])
                self.assertEqual(looks_through(SCHEMA, [], thing), [])

    def test_as_the_document_says_it(self):
        random = Random(9)
        many = {}
        for _ in range(300):
            schema = some_schema(random)
            book = some_book(random, schema, 6)
            plain = Plain(schema, book).looks
            many[len(plain)] = True
            self.assertEqual(looks(schema, book), plain)
            indexes = range(len(plain))
            for table in schema.tables:
                self.assertEqual(own_looks(schema, book, table), [at for at in indexes if plain[at][0] == table])
                for column, _ in schema.columns(table):
                    into = [at for at in indexes if plain[at][2:4] == (table, column)]
                    self.assertEqual(looks_into(schema, book, table, column), into)
            for kind in ("k", "m"):
                through = [at for at in indexes if schema.kind_of(*plain[at][:2]) == kind]
                self.assertEqual(looks_through(schema, book, kind), through)
        self.assertEqual(sorted(many), [0, 1, 2, 3])

    def test_invalid_book_comes_first(self):
        for call, more in CALLS:
            for thing in objects():
                with self.subTest(f"{call.__name__}: {repr(thing)[:60]}"):
                    if not same(thing, []):
                        self.assertRaises(InvalidBook, call, SCHEMA, thing, *more)
                        self.assertRaises(InvalidBook, call, SCHEMA, thing, *[thing] * len(more))
                    self.assertRaises(InvalidBook, call, SCHEMA, [thing], *more)
                    self.assertRaises(InvalidBook, call, SCHEMA, NEST + [("town", thing)] if thing != YES else None, *more)
            others = [("town", OPEN)], [("sea", YES)], [("town", ("has", "id", "town"))]
            for book in (NEST * 4, tuple(NEST), [list(NEST[0])], *others):
                self.assertRaises(InvalidBook, call, SCHEMA, book, *more)
                self.assertRaises(InvalidBook, call, SCHEMA, book, *[None] * len(more))

    def test_unknown_table_and_column_for_any_objects(self):
        for thing in objects() + ["sea", "id", "old"]:
            with self.subTest(repr(thing)[:60]):
                for book in (NEST, []):
                    self.assertRaises(UnknownTable, own_looks, SCHEMA, book, thing)
                    self.assertRaises(UnknownTable, looks_into, SCHEMA, book, thing, "id")
                    self.assertRaises(UnknownTable, looks_into, SCHEMA, book, thing, thing)
                    if thing != "id":
                        self.assertRaises(UnknownColumn, looks_into, SCHEMA, book, "town", thing)
        self.assertRaises(UnknownColumn, looks_into, SCHEMA, NEST, "land", "of")
        self.assertRaises(UnknownColumn, looks_into, SCHEMA, NEST, "town", "old")

    def test_by_name_new_and_arguments_kept(self):
        book = deepcopy(NEST)
        self.assertEqual(looks(book=book, schema=SCHEMA), NEST_LOOKS)
        self.assertEqual(own_looks(table="town", book=book, schema=SCHEMA), [1])
        self.assertEqual(looks_into(column="id", table="shop", book=book, schema=SCHEMA), [1])
        self.assertEqual(looks_through(kind="shop", book=book, schema=SCHEMA), [2])
        for call, more in CALLS:
            found = call(SCHEMA, book, *more)
            again = deepcopy(found)
            found.append(None)
            self.assertEqual(call(SCHEMA, book, *more), again)
        self.assertRaises(UnknownTable, own_looks, SCHEMA, book, "sea")
        self.assertTrue(same(book, NEST))


if __name__ == "__main__":
    unittest.main()
