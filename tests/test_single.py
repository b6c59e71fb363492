"""Flags that tell a single one: points [2], [8], [14] and [32]."""

import unittest
from copy import deepcopy
from random import Random

from tests.objects import Plain, chain, exactly, objects, same, some_book, some_schema, some_telling_book
from tests.test_tellers import least_and_greatest, sublists
from toldbyrest.errors import InvalidBook, UnknownFlag, UnknownTable
from toldbyrest.schemas import Schema
from toldbyrest.single import greatest_without, least_for
from toldbyrest.told import rounds_needed

SCHEMA = Schema({
    "town": ((("id", "town"), ("of", "town")), ("old", "busy")),
    "shop": ((("at", "town"),), ("open",)),
    "land": ((("id", "land"),), ()),
})
OPEN, BUSY, OLD = PLACES = [("shop", "open"), ("town", "busy"), ("town", "old")]
YES = ("yes",)
NO = ("not", YES)
SEEN = ("has", "id", "shop", "at", ("flag", "open"))
BOOK = [("town", exactly("busy", SEEN))]
CALLS = (least_for, greatest_without)


class SingleTest(unittest.TestCase):
    def check(self, schema, book, place):
        """Check both calls for a flag by asking for each list of others; return what they return."""
        others = [other for other in schema.flag_places if other != place]
        told = {}
        for kept in sublists(others):
            lacking = [other for other in schema.flag_places if other not in kept]
            told[tuple(kept)] = rounds_needed(schema, book, lacking, *place) is not None
        least, greatest = least_and_greatest(others, lambda kept: told[tuple(kept)])
        self.assertTrue(same(least_for(schema, book, *place), least))
        self.assertTrue(same(greatest_without(schema, book, *place), greatest))
        return least, greatest

    def test_the_empty_book(self):
        for place in PLACES:
            self.assertEqual(self.check(SCHEMA, [], place), ([], [[other for other in PLACES if other != place]]))

    def test_one_other(self):
        self.assertEqual(self.check(SCHEMA, BOOK, BUSY), ([[OPEN]], [[OLD]]))
        # Whether a shop is open is told by none, with all others kept.
        self.assertEqual(self.check(SCHEMA, BOOK, OPEN), ([], [[BUSY, OLD]]))
        self.assertEqual(self.check(SCHEMA, BOOK, OLD), ([], [[OPEN, BUSY]]))

    def test_no_other(self):
        # Flags that are told by the empty list, and the only flag of a schema.
        book = [("town", ("flag", "busy")), ("shop", NO)]
        self.assertEqual(self.check(SCHEMA, book, BUSY), ([[]], []))
        self.assertEqual(self.check(SCHEMA, book, OPEN), ([[]], []))
        schema = Schema({"town": ((("id", "town"),), ("old",))})
        self.assertEqual(self.check(schema, [], ("town", "old")), ([], [[]]))
        self.assertEqual(self.check(schema, [("town", ("not", ("flag", "old")))], ("town", "old")), ([[]], []))

    def test_two_others_only_together(self):
        book = [("town", exactly("busy", ("and", ("flag", "old"), SEEN)))]
        self.assertEqual(self.check(SCHEMA, book, BUSY), ([[OPEN, OLD]], [[OPEN], [OLD]]))

    def test_two_and_more_least_lists(self):
        book = BOOK + [("town", exactly("busy", ("flag", "old")))]
        self.assertEqual(self.check(SCHEMA, book, BUSY), ([[OPEN], [OLD]], [[]]))
        self.assertEqual(self.check(SCHEMA, book, OLD), ([[OPEN], [BUSY]], [[]]))
        schema = Schema({"town": ((("id", "town"),), ("a", "b", "c")), "shop": ((("at", "town"),), ("d",))})
        a, b, c, d = [("town", "a"), ("town", "b"), ("town", "c"), ("shop", "d")]
        book = [("town", exactly("c", exactly("a", ("flag", "b"))))]
        self.assertEqual(self.check(schema, book, a), ([[b, c]], [[d, b], [d, c]]))
        book.append(("town", exactly("a", ("has", "id", "shop", "at", ("flag", "d")))))
        self.assertEqual(self.check(schema, book, a), ([[d], [b, c]], [[b], [c]]))
        book.append(("town", exactly("b", ("has", "id", "shop", "at", ("not", ("flag", "d"))))))
        self.assertEqual(self.check(schema, book, c), ([[d], [a, b]], [[a], [b]]))

    def test_several_rounds(self):
        schema, book, lacking = chain()
        for place, before in zip(lacking, ([["a"]], [["a"], ["b"]], [["a"], ["b"], ["c"]])):
            least, _ = self.check(schema, book, place)
            self.assertEqual(least, [[(table, "f")] for tables in before for table in tables])

    def test_at_random(self):
        random = Random(32)
        seen = {}
        for turn in range(240):
            schema = some_schema(random)
            if schema.flag_places and len(schema.flag_places) <= 4:
                book = some_telling_book(random, schema)[0] if turn % 3 else some_book(random, schema)
                for place in schema.flag_places:
                    least, greatest = self.check(schema, book, place)
                    seen[len(least)] = seen[len(greatest), "without"] = True
                    # The least lists hold an item outside each of the greatest lists without.
                    for part in greatest:
                        self.assertTrue(all(set(tellers) - set(part) for tellers in least))
        self.assertTrue({0, 1, 2, (0, "without"), (1, "without"), (2, "without")} <= set(seen), seen)

    def test_as_the_document_says_it(self):
        random = Random(41)
        found = {}
        for _ in range(100):
            schema = some_schema(random)
            if not 0 < len(schema.flag_places) <= 3:
                continue
            book, _ = some_telling_book(random, schema)
            plain = Plain(schema, book)
            if sum(len(plain.pairs(schema.flag_places, table)) for table in schema.tables) <= 30:
                for table, flag in schema.flag_places:
                    others = [place for place in schema.flag_places if place != (table, flag)]
                    least, greatest = least_and_greatest(others, lambda kept: self.is_told_by(plain, kept, table, flag))
                    self.assertEqual(least_for(schema, book, table, flag), least)
                    self.assertEqual(greatest_without(schema, book, table, flag), greatest)
                    found[repr(least)] = True
        self.assertGreater(len(found), 5)

    def is_told_by(self, plain, kept, table, flag):
        """Return whether a flag is told, read word by word, with just these flags kept."""
        lacking = [place for place in plain.schema.flag_places if place not in kept]
        at = plain.schema.flags(table).index(flag)
        return not any(
            one[0] == table and one[1][at] != other[1][at] for one, other in plain.stages_of_pairs(lacking)[-1]
        )

    def test_five_flag_places_and_three_looks(self):
        columns = (("i", "k"), ("j", "k"), ("l", "k"))
        schema = Schema({
            "a": (columns, ("f", "g")), "b": (columns, ("f",)), "c": (columns, ("f",)), "d": (columns, ("g",)),
        })
        asks = [
            ("has", "i", "b", "j", ("flag", "f")), ("has", "j", "c", "i", ("flag", "f")),
            ("has", "l", "d", "l", ("flag", "g")),
        ]
        book = [("a", exactly("f", ("or", asks[0], asks[1]))), ("a", exactly("g", asks[1])), ("c", asks[2])]
        for place in schema.flag_places:
            self.check(schema, book, place)
        self.assertEqual(least_for(schema, book, "a", "f"), [[("a", "g"), ("b", "f")], [("b", "f"), ("c", "f")]])


class ErrorsTest(unittest.TestCase):
    def test_errors_for_any_objects(self):
        for call in CALLS:
            for thing in objects():
                with self.subTest(f"{call.__name__}: {repr(thing)[:60]}"):
                    if not same(thing, []):
                        self.assertRaises(InvalidBook, call, SCHEMA, thing, "town", "busy")
                        self.assertRaises(InvalidBook, call, SCHEMA, thing, thing, thing)
                    self.assertRaises(InvalidBook, call, SCHEMA, [thing], "town", "busy")
                    self.assertRaises(UnknownTable, call, SCHEMA, BOOK, thing, "busy")
                    self.assertRaises(UnknownTable, call, SCHEMA, BOOK, thing, thing)
                    self.assertRaises(UnknownFlag, call, SCHEMA, BOOK, "town", thing)
                    self.assertRaises(UnknownFlag, call, SCHEMA, [], "land", thing)

    def test_wrong_arguments(self):
        for call in CALLS:
            self.assertRaises(InvalidBook, call, SCHEMA, BOOK * 7, "town", "busy")
            self.assertRaises(InvalidBook, call, SCHEMA, tuple(BOOK), "sea", "busy")
            for table in ("sea", "busy", ("town", "busy"), ["town"]):
                self.assertRaises(UnknownTable, call, SCHEMA, BOOK, table, "busy")
            for table, flag in (("shop", "busy"), ("town", "open"), ("land", "busy"), ("town", "id"), ("town", ["busy"])):
                self.assertRaises(UnknownFlag, call, SCHEMA, BOOK, table, flag)

    def test_by_name_new_and_arguments_kept(self):
        for call in CALLS:
            book = deepcopy(BOOK)
            found = call(flag="busy", table="town", book=book, schema=SCHEMA)
            again = deepcopy(found)
            for part in found:
                part.clear()
            found.clear()
            self.assertEqual(call(SCHEMA, book, "town", "busy"), again)
            self.assertRaises(UnknownFlag, call, SCHEMA, book, "town", "open")
            self.assertTrue(same(book, BOOK))


if __name__ == "__main__":
    unittest.main()
