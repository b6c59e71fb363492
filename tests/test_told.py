"""Told flags: points [2], [8], [14] and [28]."""

import unittest
from copy import deepcopy
from random import Random

from tests.objects import Plain, chain, exactly, objects, same, some_book, some_rows, some_schema, some_telling_book
from toldbyrest.candidates import worked_out
from toldbyrest.errors import InvalidBook, InvalidLacking, UnknownFlag, UnknownTable
from toldbyrest.fillings import fillings
from toldbyrest.lacking import bare, is_lacking
from toldbyrest.schemas import Schema
from toldbyrest.told import is_told, levels, rounds_needed

SCHEMA = Schema({
    "town": ((("id", "town"), ("of", "town")), ("old", "busy")),
    "shop": ((("at", "town"),), ("open",)),
    "land": ((("id", "land"),), ()),
})
PLACES = [("shop", "open"), ("town", "busy"), ("town", "old")]
OF_TOWN = [("town", "busy")]
YES = ("yes",)
NO = ("not", YES)
OLD = ("flag", "old")
BUSY = ("flag", "busy")
OPEN = ("flag", "open")
SEEN = ("has", "id", "shop", "at", OPEN)
BOOK = [("town", exactly("busy", SEEN))]
CALLS = [(rounds_needed, ["town", "busy"]), (is_told, ["town", "busy"]), (levels, [])]


class ToldTest(unittest.TestCase):
    def check(self, book, lacking, expected, schema=SCHEMA):
        """Check all three calls for all lacking flags."""
        found = levels(schema, book, lacking)
        self.assertTrue(same(found, {place: expected[place] for place in sorted(lacking)}), found)
        for place in lacking:
            self.assertTrue(same(rounds_needed(schema, book, lacking, *place), expected[place]))
            self.assertIs(is_told(schema, book, lacking, *place), expected[place] is not None)

    def test_one_round(self):
        self.check(BOOK, OF_TOWN, {("town", "busy"): 1})
        self.check(BOOK, [("shop", "open")], {("shop", "open"): None})
        self.check(BOOK, PLACES, {place: None for place in PLACES})
        self.check(BOOK, [("town", "old"), ("town", "busy")], {("town", "busy"): 1, ("town", "old"): None})

    def test_no_round(self):
        # No pair differs in the flag from the beginning: it hangs on flags of the row itself, or no row can be there.
        self.check([("town", exactly("busy", OLD))], OF_TOWN, {("town", "busy"): 0})
        self.check([("town", exactly("busy", OLD))], [("town", "old")], {("town", "old"): 0})
        self.check([("town", exactly("busy", OLD))], PLACES, {place: None for place in PLACES})
        self.check([("town", BUSY), ("shop", NO)], PLACES, {("town", "busy"): 0, ("town", "old"): None, ("shop", "open"): 0})
        self.check([("town", NO)], PLACES[1:], {("town", "busy"): 0, ("town", "old"): 0})
        # No shop is open in any data, so no town has an open one.
        self.check(BOOK + [("shop", ("not", OPEN))], PLACES, {("town", "busy"): 0, ("shop", "open"): 0, ("town", "old"): None})

    def test_the_empty_book_and_no_lacking_flags(self):
        self.check([], PLACES, {place: None for place in PLACES})
        self.check([], [], {})
        self.check(BOOK, [], {})
        self.assertEqual(levels(SCHEMA, BOOK * 6, []), {})

    def test_several_rounds(self):
        schema, book, lacking = chain()
        self.check(book, lacking, {("b", "f"): 1, ("c", "f"): 2, ("d", "f"): 3}, schema)
        self.check(book, lacking[::-1], {("b", "f"): 1, ("c", "f"): 2, ("d", "f"): 3}, schema)
        self.check(book, lacking[1:], {("c", "f"): 1, ("d", "f"): 2}, schema)
        self.check(book[::-1], lacking[2:], {("d", "f"): 1}, schema)
        self.check(book, [("a", "f")], {("a", "f"): None}, schema)
        # What tells the first one is lacking, so nothing is told.
        everything = [("a", "f")] + lacking
        self.check(book, everything, {place: None for place in everything}, schema)
        self.check(book[:2], lacking, {("b", "f"): 1, ("c", "f"): 2, ("d", "f"): None}, schema)

    def test_two_lacking_flags_of_a_table(self):
        book = BOOK + [("town", exactly("old", BUSY))]
        self.check(book, PLACES[1:], {("town", "busy"): 1, ("town", "old"): 1})
        # The next town has its shops at the value at which this one finds it.
        book = BOOK + [("town", exactly("old", ("has", "of", "town", "id", BUSY)))]
        self.check(book, PLACES[1:], {("town", "busy"): 1, ("town", "old"): 1})
        # The towns of a land have their shops elsewhere.
        schema = Schema({
            "town": ((("id", "town"), ("in", "land")), ("old", "busy")), "shop": ((("at", "town"),), ("open",)),
        })
        book = BOOK + [("town", exactly("old", ("has", "in", "town", "in", BUSY)))]
        self.check(book, PLACES[1:], {("town", "busy"): 1, ("town", "old"): 2}, schema)

    def test_a_flag_that_looks_at_itself(self):
        # All fillings of a ring agree or not, so nothing is told in all data.
        self.check([("town", exactly("busy", ("has", "of", "town", "id", BUSY)))], OF_TOWN, {("town", "busy"): None})
        # Who has a row like itself, itself, is busy.
        self.check([("town", ("has", "id", "town", "id", BUSY))], OF_TOWN, {("town", "busy"): None})
        self.check([("town", exactly("busy", ("has", "id", "town", "id", YES)))], OF_TOWN, {("town", "busy"): 0})

    def test_books_with_the_same_data_have_the_same_numbers(self):
        again = [("town", ("or", ("not", BUSY), SEEN)), ("town", ("or", BUSY, ("not", SEEN))), ("town", ("or", YES, SEEN))]
        for lacking in (OF_TOWN, PLACES, [("shop", "open")], []):
            self.assertEqual(levels(SCHEMA, again, lacking), levels(SCHEMA, BOOK, lacking))
            self.assertEqual(levels(SCHEMA, BOOK * 6, lacking), levels(SCHEMA, BOOK, lacking))
            wider = BOOK + [("land", ("or", YES, ("has", "id", "land", "id", YES)))]
            self.assertEqual(levels(SCHEMA, wider, lacking), levels(SCHEMA, BOOK, lacking))

    def test_as_the_document_says_it(self):
        random = Random(28)
        seen = {}
        for turn in range(240):
            schema = some_schema(random)
            if not schema.flag_places:
                continue
            book, lacking = some_telling_book(random, schema) if turn % 3 else (some_book(random, schema), schema.flag_places[:2])
            plain = Plain(schema, book)
            if sum(len(plain.pairs(lacking, table)) for table in schema.tables) <= 80:
                stages = plain.stages_of_pairs(lacking)
                expected = {}
                for table, flag in lacking:
                    at = schema.flags(table).index(flag)
                    behind = [
                        any(one[0] == table and one[1][at] != other[1][at] for one, other in there) for there in stages
                    ]
                    expected[table, flag] = None if behind[-1] else behind.index(False)
                    seen[expected[table, flag]] = True
                self.check(book, lacking, expected, schema)
        self.assertTrue({None, 0, 1, 2} <= set(seen))

    def test_what_is_told_is_so_in_all_fillings_and_worked_out(self):
        random = Random(8)
        told = 0
        for _ in range(300):
            schema = some_schema(random)
            if schema.flag_places:
                book, lacking = some_telling_book(random, schema)
                rows = bare(schema, some_rows(random, schema), lacking)
                if sum(flags.count(None) for table in rows for _, flags in rows[table]) <= 6:
                    told += self.check_fillings(schema, book, lacking, rows)
        self.assertGreater(told, 20)

    def check_fillings(self, schema, book, lacking, rows):
        """Check that fillings agree in told flags, which so many rounds work out; return how many are told."""
        found = fillings(schema, book, lacking, rows)
        told = 0
        for (table, flag), number in levels(schema, book, lacking).items() if found else []:
            at = schema.flags(table).index(flag)
            if number is not None:
                flags = [row[1][at] for row in worked_out(schema, book, lacking, rows, number)[table]]
                self.assertTrue(all([row[1][at] for row in filled[table]] == flags for filled in found))
                told += number > 0 and len(flags) > 0
        return told

    def test_errors_for_any_objects(self):
        for call, more in CALLS:
            for thing in objects():
                with self.subTest(f"{call.__name__}: {repr(thing)[:60]}"):
                    if not same(thing, []):
                        self.assertRaises(InvalidBook, call, SCHEMA, thing, OF_TOWN, *more)
                        self.assertRaises(InvalidBook, call, SCHEMA, thing, thing, *[thing] * len(more))
                    self.assertRaises(InvalidBook, call, SCHEMA, [thing], OF_TOWN, *more)
                    if not is_lacking(SCHEMA, thing):
                        self.assertRaises(InvalidLacking, call, SCHEMA, BOOK, thing, *more)
                        self.assertRaises(InvalidLacking, call, SCHEMA, BOOK, thing, *[thing] * len(more))
            self.assertRaises(InvalidBook, call, SCHEMA, BOOK * 7, OF_TOWN, *more)
            self.assertRaises(InvalidBook, call, SCHEMA, tuple(BOOK), OF_TOWN, *more)
            for lacking in (OF_TOWN * 2, tuple(OF_TOWN), [["town", "busy"]], [("town", "id")], [("town", "open")], [("town",)]):
                self.assertRaises(InvalidLacking, call, SCHEMA, BOOK, lacking, *more)

    def test_unknown_table_and_flag(self):
        for call in (rounds_needed, is_told):
            for thing in objects() + ["sea", "id", ("town", "busy")]:
                with self.subTest(f"{call.__name__}: {repr(thing)[:60]}"):
                    self.assertRaises(UnknownTable, call, SCHEMA, BOOK, OF_TOWN, thing, "busy")
                    self.assertRaises(UnknownTable, call, SCHEMA, BOOK, OF_TOWN, thing, thing)
                    self.assertRaises(UnknownFlag, call, SCHEMA, BOOK, OF_TOWN, "town", thing)
                    self.assertRaises(UnknownFlag, call, SCHEMA, BOOK, [], "town", thing)
            # Flags that are kept, and flags of another table.
            self.assertRaises(UnknownFlag, call, SCHEMA, BOOK, OF_TOWN, "town", "old")
            self.assertRaises(UnknownFlag, call, SCHEMA, BOOK, OF_TOWN, "shop", "open")
            self.assertRaises(UnknownFlag, call, SCHEMA, BOOK, OF_TOWN, "shop", "busy")
            self.assertRaises(UnknownFlag, call, SCHEMA, BOOK, PLACES, "land", "busy")
            self.assertRaises(UnknownFlag, call, SCHEMA, BOOK, [], "town", "busy")
            self.assertRaises(UnknownFlag, call, SCHEMA, BOOK, OF_TOWN, "town", ["busy"])

    def test_first_error(self):
        for call in (rounds_needed, is_told):
            self.assertRaises(InvalidBook, call, SCHEMA, None, None, None, None)
            self.assertRaises(InvalidLacking, call, SCHEMA, BOOK, None, None, None)
            self.assertRaises(UnknownTable, call, SCHEMA, BOOK, OF_TOWN, None, None)
        self.assertRaises(InvalidBook, levels, SCHEMA, None, None)

    def test_by_name_new_and_arguments_kept(self):
        book, lacking = deepcopy(BOOK), PLACES[:0:-1]
        self.assertEqual(rounds_needed(flag="busy", table="town", lacking=lacking, book=book, schema=SCHEMA), 1)
        self.assertIs(is_told(flag="old", table="town", lacking=lacking, book=book, schema=SCHEMA), False)
        found = levels(lacking=lacking, book=book, schema=SCHEMA)
        self.assertEqual(list(found), [("town", "busy"), ("town", "old")])
        found.clear()
        self.assertEqual(len(levels(SCHEMA, book, lacking)), 2)
        self.assertRaises(UnknownFlag, is_told, SCHEMA, book, lacking, "town", "open")
        self.assertTrue(same([book, lacking], [BOOK, [("town", "old"), ("town", "busy")]]))


if __name__ == "__main__":
    unittest.main()
