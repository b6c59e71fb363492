"""Pairs: points [2], [13], [14] and [27]."""

import unittest
from copy import deepcopy
from itertools import product
from random import Random

from tests.objects import Plain, chain, exactly, objects, same, some_book, some_schema, some_telling_book
from toldbyrest.errors import InvalidBook, InvalidLacking, UnknownTable
from toldbyrest.kinds import row_kinds
from toldbyrest.lacking import is_lacking
from toldbyrest.left import kinds_left
from toldbyrest.pairs import pairs, pairs_left, rounds_of_pairs
from toldbyrest.schemas import Schema

SCHEMA = Schema({
    "town": ((("id", "town"), ("of", "town")), ("old", "busy")),
    "shop": ((("at", "town"),), ("open",)),
    "land": ((("id", "land"),), ()),
})
PLACES = [("shop", "open"), ("town", "busy"), ("town", "old")]
OF_TOWN = [("town", "busy")]
YES = ("yes",)
NO = ("not", YES)
OLD = ("flag", "old")
BUSY = ("flag", "busy")
OPEN = ("flag", "open")
SEEN = ("has", "id", "shop", "at", OPEN)
# A town is busy exactly if it has an open shop.
BOOK = [("town", exactly("busy", SEEN))]
LAND = ("land", (), ())
CALLS = [(pairs, ["town"]), (pairs_left, ["town"]), (rounds_of_pairs, [])]


class PairsTest(unittest.TestCase):
    def test_pairs_have_the_same_kept_flags(self):
        left = kinds_left(SCHEMA, BOOK, "town")
        self.assertEqual(len(left), 4)
        expected = [(one, other) for one, other in product(left, repeat=2) if one[1][0] == other[1][0]]
        self.assertEqual(pairs(SCHEMA, BOOK, OF_TOWN, "town"), expected)
        self.assertEqual(pairs(SCHEMA, BOOK, [], "town"), [(kind, kind) for kind in left])
        for lacking in (PLACES, PLACES[1:], PLACES[:0:-1]):
            self.assertEqual(pairs(SCHEMA, BOOK, lacking, "town"), list(product(left, repeat=2)))
        self.assertEqual(pairs(SCHEMA, BOOK, [("town", "old")], "town"), [
            (one, other) for one, other in product(left, repeat=2) if one[1][1] == other[1][1]
        ])

    def test_pairs_of_tables_without_lacking_flags(self):
        # The answers of a pair may differ, where its flags do not.
        book = [("town", ("or", YES, SEEN))]
        left = kinds_left(SCHEMA, book, "town")
        expected = [(one, other) for one, other in product(left, repeat=2) if one[1] == other[1]]
        self.assertEqual(len(expected), 16)
        for lacking in ([], [("shop", "open")]):
            self.assertEqual(pairs(SCHEMA, book, lacking, "town"), expected)
        self.assertEqual(pairs(SCHEMA, book, PLACES, "land"), [(LAND, LAND)])

    def test_row_kinds_that_are_struck_have_no_pairs(self):
        never = ("town", ("and", OLD, ("has", "of", "town", "id", ("not", OLD))))
        book = [never, ("shop", ("or", YES, ("has", "at", "town", "id", YES)))]
        self.assertGreater(len(row_kinds(SCHEMA, book, "town")), 0)
        for call in (pairs, pairs_left):
            self.assertEqual(call(SCHEMA, book, PLACES, "town"), [])
            # No town can be there, so no shop has one.
            shops = [("shop", (flag,), (False,)) for flag in (False, True)]
            self.assertEqual(call(SCHEMA, book, PLACES, "shop"), list(product(shops, repeat=2)))
        self.assertEqual(rounds_of_pairs(SCHEMA, book, PLACES), {})
        for table in SCHEMA.tables:
            self.assertEqual(pairs(SCHEMA, [(table, NO)], PLACES, table), [])

    def test_the_empty_book(self):
        for lacking in ([], OF_TOWN, PLACES):
            self.assertEqual(rounds_of_pairs(SCHEMA, [], lacking), {})
            for table in SCHEMA.tables:
                self.assertEqual(pairs_left(SCHEMA, [], lacking, table), pairs(SCHEMA, [], lacking, table))

    def test_pairs_that_differ_where_the_flags_tell_are_struck(self):
        rounds = rounds_of_pairs(SCHEMA, BOOK, OF_TOWN)
        differing = [pair for pair in pairs(SCHEMA, BOOK, OF_TOWN, "town") if pair[0] != pair[1]]
        self.assertEqual(rounds, {pair: 1 for pair in differing})
        self.assertEqual(pairs_left(SCHEMA, BOOK, OF_TOWN, "town"), [(kind, kind) for kind in kinds_left(SCHEMA, BOOK, "town")])
        # If nobody knows which shops are open, nothing is struck.
        self.assertEqual(rounds_of_pairs(SCHEMA, BOOK, PLACES), {})

    def test_a_row_kind_with_itself_is_never_struck(self):
        random = Random(13)
        for _ in range(60):
            schema = some_schema(random)
            book = some_book(random, schema)
            for table in schema.tables:
                found = pairs_left(schema, book, [], table)
                for kind in kinds_left(schema, book, table):
                    self.assertIn((kind, kind), found)

    def test_later_rounds(self):
        schema, book, lacking = chain()
        rounds = rounds_of_pairs(schema, book, lacking)
        self.assertEqual({pair[0][0]: number for pair, number in rounds.items()}, {"b": 1, "c": 2, "d": 3})
        for number, table in enumerate(("b", "c", "d")):
            self.assertEqual(len(pairs(schema, book, lacking, table)) - len(pairs_left(schema, book, lacking, table)), 2)
        # A flag that is kept in the middle shortens the way.
        rounds = rounds_of_pairs(schema, book, [lacking[0], lacking[2]])
        self.assertEqual({pair[0][0]: number for pair, number in rounds.items()}, {"b": 1, "d": 1})

    def test_turned_around_they_are_struck_in_the_same_round(self):
        random = Random(2)
        for _ in range(60):
            schema = some_schema(random)
            if schema.flag_places:
                rounds = rounds_of_pairs(schema, *some_telling_book(random, schema))
                self.assertEqual({(other, one): number for (one, other), number in rounds.items()}, rounds)

    def test_three_looks_and_two_lacking_flags(self):
        schema = Schema({"a": ((("i", "k"), ("j", "k"), ("l", "k")), ("f", "g", "h"))})
        asks = [
            ("has", "i", "a", "j", ("flag", "f")), ("has", "j", "a", "i", ("flag", "g")), ("has", "l", "a", "l", ("flag", "h")),
        ]
        book = [("a", ("or", YES, ("and", asks[0], ("and", asks[1], asks[2]))))]
        # Who has h finds a row with it, itself, through l.
        self.assertEqual(len(kinds_left(schema, book, "a")), 16 + 32)
        found = pairs(schema, book, [("a", "g"), ("a", "f")], "a")
        self.assertEqual(len(found), 16 * 16 + 32 * 32)
        self.assertEqual(found, sorted(found))
        rounds = rounds_of_pairs(schema, book, [("a", "g"), ("a", "f")])
        self.assertEqual(list(rounds), sorted(rounds))
        left = pairs_left(schema, book, [("a", "g"), ("a", "f")], "a")
        self.assertEqual(left, [pair for pair in found if pair not in rounds])
        self.assertTrue(all(pair[0][2][2] == pair[1][2][2] for pair in left))

    def test_as_the_document_says_it(self):
        random = Random(27)
        last = {}
        for turn in range(240):
            schema = some_schema(random)
            book, lacking = some_book(random, schema), [place for place in schema.flag_places if random.random() < 0.5]
            if schema.flag_places and turn % 3:
                book, lacking = some_telling_book(random, schema)
            plain = Plain(schema, book)
            if sum(len(plain.pairs(lacking, table)) for table in schema.tables) <= 80:
                last[self.check(schema, book, lacking, plain)] = True
        self.assertEqual(sorted(last)[:3], [0, 1, 2])

    def check(self, schema, book, lacking, plain):
        expected = plain.rounds_of_pairs(lacking)
        found = rounds_of_pairs(schema, book, lacking)
        self.assertTrue(same(found, {pair: expected[pair] for pair in sorted(expected)}))
        self.assertEqual(list(found), sorted(found))
        for table in schema.tables:
            everything = plain.pairs(lacking, table)
            self.assertEqual(pairs(schema, book, lacking, table), everything)
            self.assertEqual(pairs_left(schema, book, lacking, table), [pair for pair in everything if pair not in expected])
        return max(expected.values(), default=0)

    def test_errors_for_any_objects(self):
        for call, more in CALLS:
            for thing in objects():
                with self.subTest(f"{call.__name__}: {repr(thing)[:60]}"):
                    if not same(thing, []):
                        self.assertRaises(InvalidBook, call, SCHEMA, thing, OF_TOWN, *more)
                        self.assertRaises(InvalidBook, call, SCHEMA, thing, thing, *[thing] * len(more))
                    self.assertRaises(InvalidBook, call, SCHEMA, [thing], OF_TOWN, *more)
                    if not is_lacking(SCHEMA, thing):
                        self.assertRaises(InvalidLacking, call, SCHEMA, BOOK, thing, *more)
                        self.assertRaises(InvalidLacking, call, SCHEMA, BOOK, thing, *[thing] * len(more))
            self.assertRaises(InvalidBook, call, SCHEMA, BOOK * 7, OF_TOWN, *more)
            self.assertRaises(InvalidBook, call, SCHEMA, tuple(BOOK), OF_TOWN, *more)
            for lacking in (OF_TOWN * 2, tuple(OF_TOWN), [["town", "busy"]], [("town", "id")], [("town", "open")], [("town",)]):
                self.assertRaises(InvalidLacking, call, SCHEMA, BOOK, lacking, *more)
            self.assertRaises(InvalidBook, call, SCHEMA, None, None, *[None] * len(more))
            self.assertRaises(InvalidLacking, call, SCHEMA, BOOK, None, *[None] * len(more))

    def test_unknown_table(self):
        for call in (pairs, pairs_left):
            for thing in objects() + ["sea", "id", ("town", "busy")]:
                for lacking in ([], OF_TOWN):
                    self.assertRaises(UnknownTable, call, SCHEMA, BOOK, lacking, thing)

    def test_by_name_new_and_arguments_kept(self):
        book, lacking = deepcopy(BOOK), list(PLACES)
        for call in (pairs, pairs_left):
            found = call(table="town", lacking=lacking, book=book, schema=SCHEMA)
            again = list(found)
            found.clear()
            self.assertEqual(call(SCHEMA, book, lacking, "town"), again)
            self.assertRaises(UnknownTable, call, SCHEMA, book, lacking, "sea")
        found = rounds_of_pairs(lacking=OF_TOWN, book=book, schema=SCHEMA)
        self.assertEqual(len(found), 4)
        found.clear()
        self.assertEqual(len(rounds_of_pairs(SCHEMA, book, OF_TOWN)), 4)
        self.assertTrue(same([book, lacking, OF_TOWN], [BOOK, PLACES, [("town", "busy")]]))


if __name__ == "__main__":
    unittest.main()
