"""Needed rules: points [2], [14] and [35]."""

import unittest
from copy import deepcopy
from random import Random

from tests.objects import Plain, chain, exactly, objects, same, some_condition, some_schema, some_telling_book
from tests.test_tellers import least_and_greatest, sublists
from toldbyrest.errors import InvalidBook, InvalidLacking, UnknownFlag, UnknownTable
from toldbyrest.lacking import is_lacking
from toldbyrest.needed import greatest_spoilers, least_rules
from toldbyrest.schemas import Schema
from toldbyrest.told import is_told, rounds_needed

SCHEMA = Schema({
    "town": ((("id", "town"), ("of", "town")), ("old", "busy")),
    "shop": ((("at", "town"),), ("open",)),
    "land": ((("id", "land"),), ()),
})
PLACES = [("shop", "open"), ("town", "busy"), ("town", "old")]
OF_TOWN = [("town", "busy")]
YES = ("yes",)
NO = ("not", YES)
OLD = ("flag", "old")
BUSY = ("flag", "busy")
SEEN = ("has", "id", "shop", "at", ("flag", "open"))
BOOK = [("town", ("or", ("not", BUSY), SEEN)), ("town", ("or", BUSY, ("not", SEEN)))]
CALLS = (least_rules, greatest_spoilers)


class NeededTest(unittest.TestCase):
    def check(self, book, lacking=OF_TOWN, place=("town", "busy"), schema=SCHEMA):
        """Check both calls by asking for each list of rules; return what they return."""
        indexes = list(range(len(book)))
        told = {
            tuple(some): is_told(schema, [book[index] for index in some], lacking, *place) for some in sublists(indexes)
        }
        least, greatest = least_and_greatest(indexes, lambda some: told[tuple(some)])
        self.assertTrue(same(least_rules(schema, book, lacking, *place), least))
        self.assertTrue(same(greatest_spoilers(schema, book, lacking, *place), greatest))
        return least, greatest

    def test_the_empty_book_and_flags_that_are_told_by_no_rules(self):
        self.assertEqual(self.check([]), ([], [[]]))
        self.assertEqual(self.check([("town", YES), ("shop", NO)]), ([], [[0, 1]]))
        self.assertEqual(self.check(BOOK, [("shop", "open")], ("shop", "open")), ([], [[0, 1]]))
        self.assertEqual(self.check(BOOK, PLACES), ([], [[0, 1]]))

    def test_rules_that_are_needed(self):
        self.assertEqual(self.check(BOOK), ([[0, 1]], [[0], [1]]))
        self.assertEqual(self.check([("town", BUSY)]), ([[0]], [[]]))
        self.assertEqual(self.check([("town", YES)] + BOOK), ([[1, 2]], [[0, 1], [0, 2]]))

    def test_two_and_more_least_lists(self):
        self.assertEqual(self.check(BOOK + [("town", exactly("busy", SEEN))]), ([[0, 1], [2]], [[0], [1]]))
        self.assertEqual(self.check(BOOK + [("town", BUSY), ("town", NO)]), ([[0, 1], [2], [3]], [[0], [1]]))
        both = BOOK + [("town", exactly("busy", OLD)), ("shop", NO)]
        self.assertEqual(self.check(both), ([[0, 1], [0, 3], [2]], [[0], [1, 3]]))

    def test_equal_rules_and_six_of_them(self):
        self.assertEqual(self.check(BOOK[:1] * 2), ([], [[0, 1]]))
        self.assertEqual(self.check(BOOK[:1] * 2 + BOOK[1:]), ([[0, 2], [1, 2]], [[0, 1], [2]]))
        six = BOOK * 3
        least, greatest = self.check(six)
        self.assertEqual(least, [[one, other] for one in range(6) for other in range(one + 1, 6) if (one + other) & 1])
        self.assertEqual(greatest, [[0, 2, 4], [1, 3, 5]])

    def test_a_table_that_can_have_no_rows(self):
        book = [("town", OLD), ("town", ("not", OLD)), ("town", ("or", OLD, BUSY))]
        self.assertEqual(self.check(book), ([[0, 1], [1, 2]], [[0, 2], [1]]))

    def test_several_rounds(self):
        schema, book, lacking = chain()
        expected = [([[0]], [[1, 2]]), ([[0, 1]], [[0, 2], [1, 2]]), ([[0, 1, 2]], [[0, 1], [0, 2], [1, 2]])]
        for place, both in zip(lacking, expected):
            self.assertEqual(self.check(book, lacking, place, schema), both)

    def test_at_random(self):
        random = Random(35)
        seen = {}
        for _ in range(150):
            schema = some_schema(random)
            if schema.flag_places:
                book, lacking = some_telling_book(random, schema, 2)
                book = self.split(random, schema, book)
                for place in lacking:
                    least, greatest = self.check(book, lacking, place, schema)
                    seen[min(len(least), 2), max([len(part) for part in least], default=None)] = True
                    # The least lists are the least ones that hold a rule outside each of the greatest lists without.
                    outside = [[index for index in range(len(book)) if index not in part] for part in greatest]
                    hit, _ = least_and_greatest(range(len(book)), lambda some: all(set(some) & set(part) for part in outside))
                    self.assertEqual(least, hit)
        # No flag is told without any rule, so the empty list is never one of the least.
        self.assertEqual(set(seen), {(0, None), (1, 1), (1, 2), (2, 1), (2, 2)})

    def split(self, random, schema, book):
        """Return a book with rules that say a part of what one of these says, and others."""
        parts = []
        for table, condition in book:
            if condition[0] == "or" and random.random() < 0.6:
                parts.append((table, ("or", condition[1], NO)))
            if condition[0] == "and":
                parts += [(table, part) for part in condition[1:]]
        table = random.choice(schema.tables)
        flags = [("flag", flag) for flag in schema.flags(table)]
        return (book + parts + [(table, random.choice(flags + [("not", flag) for flag in flags] + [NO]))])[:6]

    def test_as_the_document_says_it(self):
        random = Random(36)
        told = 0
        for _ in range(60):
            schema = some_schema(random)
            if not schema.flag_places:
                continue
            book, lacking = some_telling_book(random, schema, 2)
            for table, flag in lacking:
                at = schema.flags(table).index(flag)
                outcomes = {}
                for some in sublists(list(range(len(book)))):
                    plain = Plain(schema, [book[index] for index in some])
                    if sum(len(plain.pairs(lacking, name)) for name in schema.tables) > 40:
                        break
                    left = plain.stages_of_pairs(lacking)[-1]
                    outcomes[tuple(some)] = not any(one[0] == table and one[1][at] != two[1][at] for one, two in left)
                else:
                    least, greatest = least_and_greatest(range(len(book)), lambda some: outcomes[tuple(some)])
                    self.assertEqual(least_rules(schema, book, lacking, table, flag), least)
                    self.assertEqual(greatest_spoilers(schema, book, lacking, table, flag), greatest)
                    told += len(least)
        self.assertGreater(told, 10)

    def test_large_books(self):
        columns = (("i", "k"), ("j", "k"), ("l", "k"))
        schema = Schema({name: (columns, ("f", "g", "h")) for name in "abcd"})
        asks = [("has", "i", "b", "j", ("flag", "f")), ("has", "j", "c", "i", ("flag", "g")), ("has", "l", "d", "l", ("flag", "h"))]
        book = [("a", exactly("f", asks[0])), ("a", exactly("g", asks[1])), ("a", exactly("f", ("flag", "g")))]
        book += [("a", exactly("f", asks[2])), ("b", ("flag", "g")), ("a", ("flag", "h"))]
        lacking = [("a", "f"), ("a", "g"), ("b", "g"), ("c", "h"), ("d", "f"), ("d", "g")]
        least, _ = self.check(book, lacking, ("a", "f"), schema)
        self.assertEqual(least, [[0], [1, 2], [3]])
        self.assertEqual(rounds_needed(schema, book, lacking, "a", "f"), 1)

    def test_more_rules_tell_no_less(self):
        random = Random(77)
        for _ in range(60):
            schema = some_schema(random)
            if schema.flag_places:
                book, lacking = some_telling_book(random, schema, 2)
                table = random.choice(schema.tables)
                more = [(table, some_condition(random, schema, table, 1))]
                for place in lacking:
                    self.assertGreaterEqual(is_told(schema, book + more, lacking, *place), is_told(schema, book, lacking, *place))
                    for part in least_rules(schema, book, lacking, *place):
                        self.assertTrue(is_told(schema, [book[index] for index in part] + more, lacking, *place))


class ErrorsTest(unittest.TestCase):
    def test_errors_for_any_objects(self):
        for call in CALLS:
            for thing in objects():
                with self.subTest(f"{call.__name__}: {repr(thing)[:60]}"):
                    if not same(thing, []):
                        self.assertRaises(InvalidBook, call, SCHEMA, thing, OF_TOWN, "town", "busy")
                        self.assertRaises(InvalidBook, call, SCHEMA, thing, thing, thing, thing)
                    self.assertRaises(InvalidBook, call, SCHEMA, [thing], OF_TOWN, "town", "busy")
                    if not is_lacking(SCHEMA, thing):
                        self.assertRaises(InvalidLacking, call, SCHEMA, BOOK, thing, "town", "busy")
                        self.assertRaises(InvalidLacking, call, SCHEMA, BOOK, thing, thing, thing)
                    self.assertRaises(UnknownTable, call, SCHEMA, BOOK, OF_TOWN, thing, "busy")
                    self.assertRaises(UnknownTable, call, SCHEMA, BOOK, OF_TOWN, thing, thing)
                    self.assertRaises(UnknownFlag, call, SCHEMA, BOOK, OF_TOWN, "town", thing)

    def test_wrong_arguments(self):
        for call in CALLS:
            for book in (BOOK * 4, tuple(BOOK), [list(BOOK[0])], [("shop", BUSY)]):
                self.assertRaises(InvalidBook, call, SCHEMA, book, None, None, None)
            for lacking in (OF_TOWN * 2, tuple(OF_TOWN), [["town", "busy"]], [("town", "id")], [("town",)]):
                self.assertRaises(InvalidLacking, call, SCHEMA, BOOK, lacking, None, None)
            for table in ("sea", "busy", ("town", "busy")):
                self.assertRaises(UnknownTable, call, SCHEMA, BOOK, OF_TOWN, table, None)
            for table, flag in (("town", "old"), ("shop", "open"), ("shop", "busy"), ("land", "busy"), ("town", "id")):
                self.assertRaises(UnknownFlag, call, SCHEMA, BOOK, OF_TOWN, table, flag)
            self.assertRaises(UnknownFlag, call, SCHEMA, [], [], "town", "busy")

    def test_by_name_new_and_arguments_kept(self):
        for call in CALLS:
            book, lacking = deepcopy(BOOK), list(OF_TOWN)
            found = call(flag="busy", table="town", lacking=lacking, book=book, schema=SCHEMA)
            again = deepcopy(found)
            for part in found:
                part.clear()
            found.clear()
            self.assertEqual(call(SCHEMA, book, lacking, "town", "busy"), again)
            self.assertRaises(UnknownFlag, call, SCHEMA, book, lacking, "town", "old")
            self.assertTrue(same([book, lacking], [BOOK, OF_TOWN]))


if __name__ == "__main__":
    unittest.main()
