"""What follows: points [2], [6], [14] and [34]."""

import unittest
from copy import deepcopy
from itertools import product
from random import Random

from tests.objects import (
    Plain, exactly, nested, objects, plainly_meets, same, some_book, some_condition, some_rows, some_schema,
)
from toldbyrest.books import keeps
from toldbyrest.errors import InvalidBook, InvalidCondition, UnknownTable
from toldbyrest.follows import are_alike, data_against, follows, needless
from toldbyrest.left import kinds_left
from toldbyrest.rows import are_rows
from toldbyrest.schemas import Schema
from toldbyrest.texts import parse_book

SCHEMA = Schema({
    "town": ((("id", "town"), ("of", "town")), ("old", "busy")),
    "shop": ((("at", "town"),), ("open",)),
    "land": ((("id", "land"),), ()),
})
YES = ("yes",)
NO = ("not", YES)
OLD = ("flag", "old")
BUSY = ("flag", "busy")
OPEN = ("flag", "open")
SEEN = ("has", "id", "shop", "at", OPEN)
ABOVE = ("has", "of", "town", "id", OLD)
BOOK = [("town", exactly("busy", SEEN))]
CALLS = (follows, data_against)


class FollowsTest(unittest.TestCase):
    def check(self, book, table, condition, expected, schema=SCHEMA):
        self.assertIs(follows(schema, book, table, condition), expected)
        found = data_against(schema, book, table, condition)
        if expected:
            self.assertIsNone(found)
        else:
            self.assertIsInstance(found, tuple)
            rows, index = found
            self.assertTrue(are_rows(schema, rows))
            self.assertEqual(list(rows), schema.tables)
            self.assertTrue(keeps(schema, book, rows))
            self.assertTrue(same(index, int(index)) and 0 <= index < len(rows[table]))
            self.assertFalse(plainly_meets(schema, rows, table, index, condition))
            self.assertLessEqual(sum(len(rows[name]) for name in rows), 300)

    def test_the_empty_book(self):
        for condition in (OLD, NO, SEEN, ABOVE, ("not", SEEN), ("and", OLD, ("not", OLD))):
            self.check([], "town", condition, False)
        for condition in (YES, ("or", OLD, ("not", OLD)), ("not", NO), ("or", SEEN, ("not", SEEN))):
            self.check([], "town", condition, True)
        # A row has the value of its own column, so these hold without any rule.
        self.check([], "land", ("has", "id", "land", "id", YES), True)
        self.check([], "town", ("or", ("not", OLD), ("has", "of", "town", "of", OLD)), True)
        self.check([], "town", ("has", "id", "town", "of", YES), False)

    def test_what_the_rules_say(self):
        self.check(BOOK, "town", ("or", ("not", BUSY), SEEN), True)
        self.check(BOOK, "town", ("or", BUSY, ("not", SEEN)), True)
        self.check(BOOK, "town", BUSY, False)
        self.check(BOOK, "shop", ("or", ("not", OPEN), ("has", "at", "town", "id", BUSY)), False)
        self.check(BOOK, "shop", ("or", ("not", OPEN), ("not", ("has", "at", "town", "id", ("not", BUSY)))), True)
        self.check(BOOK + [("town", OLD), ("town", ("not", BUSY))], "town", ("and", OLD, ("not", BUSY)), True)

    def test_looks_that_are_none_of_the_books(self):
        self.check([("town", OLD)], "town", ("or", ("not", ("has", "of", "town", "id", YES)), ABOVE), True)
        self.check([("town", OLD)], "town", ABOVE, False)
        # Each town that one comes to is old again.
        deep = nested(3, lambda part: ("has", "of", "town", "id", part), YES)
        self.check([("town", ABOVE)], "town", deep, True)
        self.check([("town", ABOVE)], "town", ("has", "of", "town", "id", ("has", "of", "town", "id", BUSY)), False)
        self.check([("land", NO)], "town", ("has", "id", "shop", "at", YES), False)

    def test_only_because_of_what_no_data_have(self):
        # No row is old, since each one would need one that is not, which cannot be there.
        book = [("town", ("or", ("not", OLD), ("has", "of", "town", "id", ("and", OLD, ("not", OLD)))))]
        self.check(book, "town", ("not", OLD), True)
        # No town can be there, as it would need a town that is not old.
        book = [("town", ("and", OLD, ("has", "of", "town", "id", ("not", OLD))))]
        for condition in (NO, BUSY, SEEN):
            self.check(book, "town", condition, True)
        self.check(book, "shop", ("not", ("has", "at", "town", "id", YES)), True)
        self.check(book, "shop", OPEN, False)
        self.check([("shop", NO)], "town", ("not", SEEN), True)

    def test_needless(self):
        self.assertEqual(needless(SCHEMA, []), [])
        self.assertEqual(needless(SCHEMA, BOOK), [])
        self.assertEqual(needless(SCHEMA, [("town", YES)]), [0])
        # Of equal rules each one follows from the others.
        self.assertEqual(needless(SCHEMA, BOOK * 2), [0, 1])
        self.assertEqual(needless(SCHEMA, BOOK * 6), [0, 1, 2, 3, 4, 5])
        self.assertEqual(needless(SCHEMA, [("town", OLD), ("town", BUSY), ("town", ("or", OLD, BUSY))]), [2])
        book = [("town", ("or", OLD, BUSY)), ("town", ("not", ("and", OLD, BUSY))), ("town", OLD)]
        self.assertEqual(needless(SCHEMA, book), [0])
        self.assertEqual(needless(SCHEMA, [("shop", NO), ("town", ("not", SEEN)), ("town", OLD)]), [1])
        # Where no town can be there, further rules for towns are needless, and so is each way to say it twice.
        self.assertEqual(needless(SCHEMA, [("town", NO), ("town", OLD), ("town", ("and", BUSY, ("not", BUSY)))]), [0, 1, 2])

    def test_are_alike(self):
        lines = ["town or not flag busy has id shop at flag open", "town or flag busy not has id shop at flag open"]
        other = parse_book(SCHEMA, "\n".join(lines))
        alike = [
            (BOOK, BOOK), (BOOK, BOOK * 6), (BOOK, other), (BOOK, other[::-1] + [("land", YES)]), ([], []),
            ([], [("town", YES), ("land", ("has", "id", "land", "id", YES))]),
            ([("town", NO)], [("town", ("not", YES)), ("town", OLD)]),
        ]
        for one, two in alike:
            self.assertIs(are_alike(SCHEMA, one, two), True)
            self.assertIs(are_alike(SCHEMA, two, one), True)
        # Of some of these books one follows from the other alone.
        unlike = [
            (BOOK, []), (BOOK, other[:1]), (other[1:], BOOK), ([("town", NO)], [("land", NO)]),
            ([("town", OLD)], [("town", BUSY)]), ([("town", OLD)], [("town", ("and", OLD, BUSY))]),
        ]
        for one, two in unlike:
            self.assertIs(are_alike(SCHEMA, one, two), False)
            self.assertIs(are_alike(SCHEMA, two, one), False)

    def test_at_random(self):
        random = Random(34)
        seen = {}
        for _ in range(500):
            schema = some_schema(random)
            book = some_book(random, schema, 3, 2)
            table = random.choice(schema.tables)
            condition = some_condition(random, schema, table, random.choice((2, 3, 4)))
            plain = Plain(schema, book + [(table, ("or", YES, condition))])
            if len(plain.looks) <= 3:
                views = kinds_left(schema, book + [(table, ("or", YES, condition))], table)
                expected = all(plain.meets(view, condition) for view in views)
                if sum(len(plain.row_kinds[name]) for name in schema.tables) <= 60:
                    self.assertEqual(views, plain.left(table))
                self.check(book, table, condition, expected, schema)
                seen[expected, len(views) > 0, len(plain.looks) > len(Plain(schema, book).looks)] = True
        self.assertEqual(len(seen), 6, seen)

    def test_what_follows_holds_in_all_small_data(self):
        random = Random(6)
        held = {}
        for _ in range(250):
            schema = some_schema(random)
            book = some_book(random, schema, 2, 2, 3)
            rows = some_rows(random, schema)
            if keeps(schema, book, rows):
                for table, condition in book + some_book(random, schema, 6, 1, 3):
                    looks = Plain(schema, book + [(table, condition)]).looks
                    if len(looks) <= 3 and follows(schema, book, table, condition):
                        self.assertTrue(all(
                            plainly_meets(schema, rows, table, at, condition) for at in range(len(rows[table]))
                        ))
                        held[len(rows[table]) > 0] = True
        self.assertEqual(len(held), 2)

    def test_a_schema_whose_small_data_are_all_asked(self):
        # With one column and one flag, two values and at most three rows show all that can be.
        schema = Schema({"a": ((("i", "k"), ("j", "k")), ("f",))})
        spots = [((one, two), (flag,)) for one in range(2) for two in range(2) for flag in (False, True)]
        every = [{"a": [spot for spot, there in zip(spots, choice) if there]} for choice in product((False, True), repeat=8)]
        look = ("has", "i", "a", "j", ("flag", "f"))
        conditions = [("flag", "f"), ("not", ("flag", "f")), look, ("not", look), ("or", ("flag", "f"), look), YES, NO,
                      ("has", "j", "a", "i", YES), ("or", ("not", ("flag", "f")), look)]
        for rule in conditions:
            data = [rows for rows in every if keeps(schema, [("a", rule)], rows)]
            for condition in conditions:
                expected = all(
                    plainly_meets(schema, rows, "a", at, condition) for rows in data for at in range(len(rows["a"]))
                )
                self.check([("a", rule)], "a", condition, expected, schema)

    def test_needless_and_alike_at_random(self):
        random = Random(35)
        seen = {}
        for _ in range(300):
            schema = some_schema(random)
            book = some_book(random, schema, 4, 3, 3)
            expected = [
                index for index, (table, condition) in enumerate(book)
                if follows(schema, book[:index] + book[index + 1:], table, condition)
            ]
            found = needless(schema, book)
            self.assertTrue(same(found, expected))
            self.assertTrue(all(are_alike(schema, book, book[:index] + book[index + 1:]) for index in found))
            other = [rule for rule in book if random.random() < 0.6] + [random.choice(book)] if book else []
            expected = all(
                follows(schema, one, table, condition) for one, two in ((book, other), (other, book)) for table, condition in two
            )
            self.assertIs(are_alike(schema, book, other), expected)
            seen[len(found)] = seen["alike", expected] = True
        self.assertTrue({0, 1, 2, ("alike", True), ("alike", False)} <= set(seen))

    def test_large_books(self):
        columns = (("i", "k"), ("j", "k"), ("l", "k"))
        schema = Schema({name: (columns, ("f", "g", "h")) for name in "abcd"})
        asks = [
            ("has", "i", "b", "j", ("flag", "f")), ("has", "j", "c", "i", ("flag", "g")),
            ("has", "l", "d", "l", ("flag", "h")),
        ]
        book = [("a", exactly("f", asks[0])), ("a", exactly("g", asks[1])), ("a", exactly("h", asks[2]))]
        self.check(book, "a", ("or", ("flag", "f"), ("not", asks[0])), True, schema)
        self.check(book[:2], "a", ("or", asks[2], ("flag", "f")), False, schema)
        self.assertEqual(needless(schema, book * 2), [0, 1, 2, 3, 4, 5])
        self.assertIs(are_alike(schema, book * 2, book), True)
        self.assertIs(are_alike(schema, book[1:], book[:2]), False)


class ErrorsTest(unittest.TestCase):
    def test_errors_for_any_objects(self):
        for thing in objects():
            with self.subTest(repr(thing)[:60]):
                for call in CALLS:
                    if not same(thing, []):
                        self.assertRaises(InvalidBook, call, SCHEMA, thing, "town", OLD)
                        self.assertRaises(InvalidBook, call, SCHEMA, thing, thing, thing)
                    self.assertRaises(InvalidBook, call, SCHEMA, [thing], "town", OLD)
                    self.assertRaises(UnknownTable, call, SCHEMA, BOOK, thing, OLD)
                    self.assertRaises(UnknownTable, call, SCHEMA, BOOK, thing, thing)
                    if thing != YES:
                        self.assertRaises(InvalidCondition, call, SCHEMA, BOOK, "town", thing)
                        self.assertRaises(InvalidCondition, call, SCHEMA, BOOK, "town", ("not", thing))
                        self.assertRaises(InvalidCondition, call, SCHEMA, BOOK, "town", ("or", OLD, thing))
                if not same(thing, []):
                    self.assertRaises(InvalidBook, needless, SCHEMA, thing)
                    self.assertRaises(InvalidBook, are_alike, SCHEMA, thing, BOOK)
                    self.assertRaises(InvalidBook, are_alike, SCHEMA, BOOK, thing)
                    self.assertRaises(InvalidBook, are_alike, SCHEMA, thing, thing)
                self.assertRaises(InvalidBook, needless, SCHEMA, [thing])
                self.assertRaises(InvalidBook, are_alike, SCHEMA, [], [thing])
                self.assertRaises(InvalidBook, are_alike, SCHEMA, [thing], [])

    def test_wrong_arguments(self):
        for call in CALLS:
            for book in (BOOK * 7, tuple(BOOK), [list(BOOK[0])], [("shop", BUSY)]):
                self.assertRaises(InvalidBook, call, SCHEMA, book, "sea", None)
            for table in ("sea", "busy", ["town"], ("town",)):
                self.assertRaises(UnknownTable, call, SCHEMA, BOOK, table, None)
            # Conditions of another table, lists in the place of tuples, parts too many or too few.
            wrong = [
                OPEN, list(OLD), ("flag", "old", "old"), ("flag",), ("has", "at", "town", "id", YES), SEEN + (YES,), SEEN[:4],
                ("has", "id", "land", "id", YES), ("not", list(OLD)), ("and", OLD), ("has", "id", "shop", "at", OLD),
            ]
            for condition in wrong:
                self.assertRaises(InvalidCondition, call, SCHEMA, BOOK, "town", condition)
            self.assertRaises(InvalidCondition, call, SCHEMA, BOOK, "shop", OLD)
        for book in (BOOK * 7, tuple(BOOK), [list(BOOK[0])], [("shop", BUSY)]):
            self.assertRaises(InvalidBook, needless, SCHEMA, book)
            self.assertRaises(InvalidBook, are_alike, SCHEMA, book, BOOK)
            self.assertRaises(InvalidBook, are_alike, SCHEMA, BOOK, book)

    def test_by_name_new_and_arguments_kept(self):
        book, other = deepcopy(BOOK), deepcopy(BOOK * 2)
        self.assertIs(follows(condition=OLD, table="town", book=book, schema=SCHEMA), False)
        self.assertIs(are_alike(other=other, one=book, schema=SCHEMA), True)
        found = needless(book=other, schema=SCHEMA)
        found.clear()
        self.assertEqual(needless(SCHEMA, other), [0, 1])
        rows, index = data_against(condition=OLD, table="town", book=book, schema=SCHEMA)
        again = deepcopy((rows, index))
        self.assertEqual(len({id(rows[table]) for table in rows}), 3)
        for table in rows:
            rows[table].clear()
        rows.clear()
        self.assertEqual(data_against(SCHEMA, book, "town", OLD), again)
        for call in CALLS:
            self.assertRaises(InvalidCondition, call, SCHEMA, book, "town", OPEN)
        self.assertTrue(same([book, other], [BOOK, BOOK * 2]))


if __name__ == "__main__":
    unittest.main()
