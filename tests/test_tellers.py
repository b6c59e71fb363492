"""Flags that tell all others: points [2], [8], [14] and [31]."""

import unittest
from copy import deepcopy
from itertools import combinations
from random import Random

from tests.objects import Plain, chain, exactly, objects, same, some_book, some_schema, some_telling_book
from toldbyrest.errors import InvalidBook, InvalidKept
from toldbyrest.lacking import is_lacking
from toldbyrest.schemas import Schema
from toldbyrest.tellers import do_tell, greatest_mutes, least_tellers
from toldbyrest.told import levels

SCHEMA = Schema({
    "town": ((("id", "town"), ("of", "town")), ("old", "busy")),
    "shop": ((("at", "town"),), ("open",)),
    "land": ((("id", "land"),), ()),
})
PLACES = [("shop", "open"), ("town", "busy"), ("town", "old")]
YES = ("yes",)
NO = ("not", YES)
OLD = ("flag", "old")
BUSY = ("flag", "busy")
SEEN = ("has", "id", "shop", "at", ("flag", "open"))
BOOK = [("town", exactly("busy", SEEN))]
LISTS = (least_tellers, greatest_mutes)


def sublists(places):
    """Return all lists of some of the places, in their order."""
    return [list(part) for many in range(len(places) + 1) for part in combinations(places, many)]


def least_and_greatest(places, enough):
    """Return the least lists that are enough and the greatest that are not, by asking each list, read from [31]."""
    least = [
        part for part in sublists(places)
        if enough(part) and not any(enough([place for place in part if place != out]) for out in part)
    ]
    greatest = [
        part for part in sublists(places)
        if not enough(part) and all(enough(sorted(part + [more])) for more in places if more not in part)
    ]
    return sorted(least), sorted(greatest)


class TellersTest(unittest.TestCase):
    def check(self, schema, book):
        """Check all calls for all lists by levels; return what the least and the greatest lists are."""
        told = {}
        for kept in sublists(schema.flag_places):
            lacking = [place for place in schema.flag_places if place not in kept]
            told[tuple(kept)] = None not in levels(schema, book, lacking).values()
            self.assertIs(do_tell(schema, book, kept), told[tuple(kept)])
            self.assertIs(do_tell(schema, book, kept[::-1]), told[tuple(kept)])
        least, greatest = least_and_greatest(schema.flag_places, lambda kept: told[tuple(kept)])
        self.assertTrue(same(least_tellers(schema, book), least))
        self.assertTrue(same(greatest_mutes(schema, book), greatest))
        return least, greatest

    def test_the_empty_book(self):
        self.assertEqual(self.check(SCHEMA, []), ([PLACES], [PLACES[:2], [PLACES[0], PLACES[2]], PLACES[1:]]))
        self.assertIs(do_tell(SCHEMA, [], PLACES), True)
        self.assertIs(do_tell(SCHEMA, [], []), False)

    def test_no_flags_at_all(self):
        schema = Schema({"land": ((("id", "land"),), ())})
        for book in ([], [("land", NO)], [("land", ("has", "id", "land", "id", YES))]):
            self.assertEqual(self.check(schema, book), ([[]], []))
            self.assertIs(do_tell(schema, book, []), True)

    def test_one_teller(self):
        self.assertEqual(self.check(SCHEMA, BOOK), ([[PLACES[0], PLACES[2]]], [[PLACES[0], PLACES[1]], PLACES[1:]]))

    def test_two_and_more_least_lists(self):
        same_flags = [("town", exactly("busy", OLD))]
        self.assertEqual(self.check(SCHEMA, same_flags), ([PLACES[:2], [PLACES[0], PLACES[2]]], [PLACES[:1], PLACES[1:]]))
        schema = Schema({"town": ((("id", "town"),), ("a", "b", "c"))})
        a, b, c = places = [("town", flag) for flag in "abc"]
        odd = [("town", exactly("c", exactly("a", ("flag", "b"))))]
        self.assertEqual(self.check(schema, odd), ([[a, b], [a, c], [b, c]], [[place] for place in places]))
        equal = [("town", exactly("a", ("flag", "b"))), ("town", exactly("b", ("flag", "c")))]
        self.assertEqual(self.check(schema, equal), ([[a], [b], [c]], [[]]))

    def test_two_others_only_together(self):
        book = [("town", exactly("busy", ("and", OLD, SEEN)))]
        self.assertEqual(self.check(SCHEMA, book)[0], [[PLACES[0], PLACES[2]]])

    def test_told_by_the_empty_list(self):
        book = [("town", BUSY), ("town", ("not", OLD)), ("shop", NO)]
        self.assertEqual(self.check(SCHEMA, book), ([[]], []))
        self.assertEqual(self.check(SCHEMA, book[1:]), ([[("town", "busy")]], [[("shop", "open"), ("town", "old")]]))
        self.assertEqual(self.check(SCHEMA, [("town", NO)])[0], [[("shop", "open")]])

    def test_several_rounds(self):
        schema, book, _ = chain()
        self.assertEqual(self.check(schema, book)[0], [[("a", "f")]])
        self.assertEqual(self.check(schema, book[:2])[0], [[("a", "f"), ("d", "f")]])

    def test_at_random(self):
        random = Random(31)
        seen = {}
        for turn in range(150):
            schema = some_schema(random)
            if len(schema.flag_places) <= 4:
                book = some_telling_book(random, schema)[0] if turn % 3 and schema.flag_places else some_book(random, schema)
                least, _ = self.check(schema, book)
                seen[len(least), max(len(part) for part in least)] = True
        self.assertTrue({(1, 0), (1, 1), (1, 2), (2, 1)} <= set(seen))

    def test_as_the_document_says_it(self):
        random = Random(14)
        told = 0
        for _ in range(120):
            schema = some_schema(random)
            book, _ = some_telling_book(random, schema) if schema.flag_places else ([], [])
            plain = Plain(schema, book)
            for kept in sublists(schema.flag_places)[:-1]:
                lacking = [place for place in schema.flag_places if place not in kept]
                if sum(len(plain.pairs(lacking, table)) for table in schema.tables) <= 30:
                    left = plain.stages_of_pairs(lacking)[-1]
                    expected = all(one[1] == other[1] for one, other in left)
                    self.assertIs(do_tell(schema, book, kept), expected)
                    told += expected
        self.assertGreater(told, 15)

    def test_what_is_told_with_some_is_told_with_more_kept_flags(self):
        random = Random(5)
        for _ in range(60):
            schema = some_schema(random)
            book = some_telling_book(random, schema)[0] if schema.flag_places else []
            for least in least_tellers(schema, book):
                for place in schema.flag_places:
                    self.assertTrue(do_tell(schema, book, sorted(set(least + [place]))))
            # The least lists are the least ones that hold an item outside each of the greatest lists without.
            outside = [[place for place in schema.flag_places if place not in part] for part in greatest_mutes(schema, book)]
            hit, _ = least_and_greatest(schema.flag_places, lambda kept: all(set(kept) & set(part) for part in outside))
            self.assertEqual(least_tellers(schema, book), hit)

    def test_five_flag_places_and_three_looks(self):
        columns = (("i", "k"), ("j", "k"), ("l", "k"))
        schema = Schema({name: (columns, tuple(flags)) for name, flags in zip("abcd", ("fg", "f", "f", "g"))})
        asks = [
            ("has", "i", "b", "j", ("flag", "f")), ("has", "j", "c", "i", ("flag", "f")),
            ("has", "l", "d", "l", ("flag", "g")),
        ]
        book = [("a", exactly("f", asks[0])), ("a", exactly("g", asks[1])), ("b", exactly("f", ("flag", "f"))), ("c", asks[2])]
        self.assertEqual(len(schema.flag_places), 5)
        self.check(schema, book)
        self.assertEqual(least_tellers(schema, book[:2]), [[("b", "f"), ("c", "f"), ("d", "g")]])


class ErrorsTest(unittest.TestCase):
    def test_errors_for_any_objects(self):
        for thing in objects():
            with self.subTest(repr(thing)[:60]):
                for call in LISTS:
                    if not same(thing, []):
                        self.assertRaises(InvalidBook, call, SCHEMA, thing)
                    self.assertRaises(InvalidBook, call, SCHEMA, [thing])
                if not same(thing, []):
                    self.assertRaises(InvalidBook, do_tell, SCHEMA, thing, [])
                    self.assertRaises(InvalidBook, do_tell, SCHEMA, thing, thing)
                self.assertRaises(InvalidBook, do_tell, SCHEMA, [thing], [])
                if not is_lacking(SCHEMA, thing):
                    self.assertRaises(InvalidKept, do_tell, SCHEMA, BOOK, thing)
                self.assertRaises(InvalidKept, do_tell, SCHEMA, BOOK, [thing] if thing != ("town", "old") else [thing, thing])
                self.assertRaises(InvalidKept, do_tell, SCHEMA, BOOK, [("town", "old"), thing])
                self.assertRaises(InvalidKept, do_tell, SCHEMA, BOOK, [("town", thing)])
                self.assertRaises(InvalidKept, do_tell, SCHEMA, BOOK, [("town", "old", thing)])

    def test_wrong_arguments(self):
        for call in LISTS:
            self.assertRaises(InvalidBook, call, SCHEMA, BOOK * 7)
            self.assertRaises(InvalidBook, call, SCHEMA, tuple(BOOK))
        for book in (BOOK * 7, tuple(BOOK), [list(BOOK[0])], [("shop", BUSY)]):
            self.assertRaises(InvalidBook, do_tell, SCHEMA, book, PLACES)
            self.assertRaises(InvalidBook, do_tell, SCHEMA, book, PLACES * 2)
        wrong = [tuple(PLACES), PLACES * 2, [list(PLACES[0])], ["town", "old"], [("town", "open")], [("town", "id")],
                 [("sea", "old")], [("town",)], [("old", "town")], {PLACES[0]: True}, PLACES + [("town", "old")]]
        for kept in wrong:
            self.assertRaises(InvalidKept, do_tell, SCHEMA, BOOK, kept)

    def test_by_name_new_and_arguments_kept(self):
        book, kept = deepcopy(BOOK), PLACES[::-1]
        self.assertIs(do_tell(kept=kept, book=book, schema=SCHEMA), True)
        for call in LISTS:
            found = call(book=book, schema=SCHEMA)
            again = deepcopy(found)
            self.assertEqual(len({id(part) for part in found}), len(found))
            for part in found:
                part.clear()
            found.clear()
            self.assertEqual(call(SCHEMA, book), again)
        self.assertRaises(InvalidKept, do_tell, SCHEMA, book, kept * 2)
        self.assertTrue(same([book, kept], [BOOK, PLACES[::-1]]))


if __name__ == "__main__":
    unittest.main()
