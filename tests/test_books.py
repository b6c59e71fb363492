"""Books: points [2], [6] and [19]."""

import unittest
from copy import deepcopy
from random import Random

from tests.objects import doubled, nested, objects, plainly_meets, same, some_condition, some_rows
from toldbyrest.books import broken, is_book, is_rule, keeps
from toldbyrest.errors import InvalidBook, InvalidRows
from toldbyrest.schemas import Schema

SCHEMA = Schema({
    "town": ((("id", "town"), ("of", "town")), ("old", "busy")),
    "shop": ((("at", "town"),), ("open",)),
    "land": ((("id", "land"),), ()),
})
ROWS = {
    "town": [((1, 2), (True, False)), ((2, 3), (False, True)), ((3, 3), (False, False))],
    "shop": [((1,), (False,)), ((3,), (True,)), ((4,), (False,))],
    "land": [((1,), ())],
}
EMPTY = {"town": [], "shop": [], "land": []}
YES = ("yes",)
NO = ("not", YES)
OLD = ("flag", "old")
ABOVE = ("has", "of", "town", "id", OLD)
BOOK = [("town", OLD), ("shop", ("has", "at", "town", "id", YES)), ("town", ("or", OLD, ("flag", "busy")))]
MANY = 3000

WRONG_RULES = [
    (), ("town",), ("town", YES, YES), ("town", None), ("town", ()), ("town", "yes"), ("town", ["yes"]), ("town", True),
    ("town", ("flag", "open")), ("shop", OLD), ("land", OLD), ("sea", YES), ("id", YES), ("old", YES), ("Town", YES),
    ("", YES), (None, YES), (0, YES), (True, YES), (("town",), YES), (["town"], YES), ({"town": 1}, YES), (YES, "town"),
    ["town", YES], {"town": YES}, "town yes", YES, OLD, None, ("town", ("not", ["yes"])), ("town", ("and", YES)),
    ("town", ("has", "id", "land", "id", YES)), ("town", ("has", "at", "town", "id", YES)), (SCHEMA, YES), ("town", SCHEMA),
]


class RulesTest(unittest.TestCase):
    def test_rules(self):
        for rule in BOOK + [("land", YES), ("land", NO), ("shop", ("flag", "open")), ("shop", ("has", "at", "town", "of", ABOVE))]:
            with self.subTest(rule):
                self.assertIs(is_rule(SCHEMA, rule), True)

    def test_no_rules(self):
        for thing in WRONG_RULES:
            with self.subTest(thing):
                self.assertIs(is_rule(SCHEMA, thing), False)
                self.assertIs(is_book(SCHEMA, [thing]), False)
                self.assertIs(is_book(SCHEMA, BOOK + [thing]), False)
                self.assertIs(is_book(SCHEMA, [thing] + BOOK), False)

    def test_any_thing(self):
        for thing in objects():
            with self.subTest(repr(thing)[:60]):
                self.assertIs(is_rule(SCHEMA, thing), False)
                self.assertIs(is_rule(SCHEMA, (thing, YES)), False)
                self.assertIs(is_rule(SCHEMA, ("town", thing)), thing == YES)
                self.assertIs(is_rule(SCHEMA, (thing, thing)), False)

    def test_sixteen_levels(self):
        self.assertIs(is_rule(SCHEMA, ("town", nested(15, lambda part: ABOVE[:4] + (part,), OLD))), True)
        self.assertIs(is_rule(SCHEMA, ("town", nested(15, lambda part: ("not", part), ("flag", "open")))), False)
        self.assertIs(is_rule(SCHEMA, ("town", doubled(16, "and", OLD))), True)

    def test_by_name_and_argument_kept(self):
        self.assertIs(is_rule(thing=("town", OLD), schema=SCHEMA), True)
        thing = ("town", ["yes", {"a": [1]}])
        before = deepcopy(thing)
        self.assertIs(is_rule(SCHEMA, thing), False)
        self.assertTrue(same(thing, before))


class IsBookTest(unittest.TestCase):
    def test_books(self):
        for book in [[], BOOK, BOOK[:1] * 6, BOOK * 2, [("land", YES)]]:
            with self.subTest(book):
                self.assertIs(is_book(SCHEMA, book), True)

    def test_six_and_seven_rules(self):
        for many in range(10):
            self.assertIs(is_book(SCHEMA, [("town", OLD)] * many), many <= 6)
            self.assertIs(is_book(SCHEMA, ([("town", OLD), ("land", YES)] * 5)[:many]), many <= 6)

    def test_no_books(self):
        for thing in [(), tuple(BOOK), {}, {"town": OLD}, dict(BOOK), ("town", OLD), "", "town yes", [[]], [BOOK], None]:
            with self.subTest(thing):
                self.assertIs(is_book(SCHEMA, thing), False)

    def test_any_thing(self):
        for thing in objects():
            with self.subTest(repr(thing)[:60]):
                self.assertIs(is_book(SCHEMA, thing), same(thing, []))
                self.assertIs(is_book(SCHEMA, [thing]), False)
                self.assertIs(is_book(SCHEMA, [("town", thing)]), thing == YES)

    def test_by_name_and_argument_kept(self):
        book = deepcopy(BOOK)
        self.assertIs(is_book(thing=book, schema=SCHEMA), True)
        self.assertTrue(same(book, BOOK))


class BrokenTest(unittest.TestCase):
    def check(self, book, rows, expected):
        self.assertTrue(same(broken(SCHEMA, book, rows), expected), (book, rows))
        self.assertIs(keeps(SCHEMA, book, rows), not expected)

    def test_rules_and_rows_ascend(self):
        self.check(BOOK, ROWS, [(0, 1), (0, 2), (1, 2), (2, 2)])
        self.check(BOOK[::-1], ROWS, [(0, 2), (1, 2), (2, 1), (2, 2)])
        self.check(BOOK[1:], ROWS, [(0, 2), (1, 2)])

    def test_equal_rules(self):
        self.check([BOOK[0]] * 3, ROWS, [(number, index) for number in range(3) for index in (1, 2)])
        self.check([("land", NO)] * 6, ROWS, [(number, 0) for number in range(6)])

    def test_equal_rows(self):
        rows = {**EMPTY, "town": [((1, 1), (False, True))] * 3}
        self.check([("town", ("has", "of", "town", "id", NO))], rows, [(0, 0), (0, 1), (0, 2)])
        self.check([("town", ("has", "of", "town", "id", ("flag", "busy")))], rows, [])

    def test_nothing_broken(self):
        self.check([], ROWS, [])
        self.check([], EMPTY, [])
        self.check(BOOK, EMPTY, [])
        self.check([("town", NO), ("shop", NO), ("land", NO)], EMPTY, [])
        self.check([("town", YES), ("shop", YES), ("land", YES)], ROWS, [])
        self.check([("town", ("or", OLD, ("not", OLD)))], ROWS, [])

    def test_a_rule_concerns_its_table_alone(self):
        self.check([("land", NO)], ROWS, [(0, 0)])
        self.check([("shop", NO)], {**ROWS, "shop": []}, [])
        self.check([("land", ("has", "id", "land", "id", NO))], ROWS, [(0, 0)])

    def test_looks_at_rows_that_break_rules(self):
        book = [("town", ("not", OLD)), ("shop", ("has", "at", "town", "id", OLD))]
        self.check(book, ROWS, [(0, 0), (1, 1), (1, 2)])

    def test_order_of_keys_means_nothing(self):
        self.check(BOOK, dict(reversed(ROWS.items())), [(0, 1), (0, 2), (1, 2), (2, 2)])

    def test_as_the_document_says_it(self):
        random = Random(6)
        for _ in range(300):
            rows = some_rows(random, SCHEMA)
            tables = [random.choice(SCHEMA.tables) for _ in range(random.randrange(7))]
            book = [(table, some_condition(random, SCHEMA, table, 5)) for table in tables]
            self.check(book, rows, [
                (number, index)
                for number, (table, condition) in enumerate(book)
                for index in range(len(rows[table]))
                if not plainly_meets(SCHEMA, rows, table, index, condition)
            ])

    def test_many_rows_and_sixteen_levels(self):
        rows = {**EMPTY, "town": [((at, at + 1), (at == MANY - 1, False)) for at in range(MANY)]}
        chain = nested(15, lambda part: ("has", "of", "town", "id", part), OLD)
        crowd = doubled(16, "or", ("has", "of", "town", "id", YES))
        expected = [(0, index) for index in range(MANY) if index != MANY - 16] + [(1, MANY - 1)]
        self.check([("town", chain), ("town", crowd)], rows, expected)
        self.check([("town", NO)] * 6, rows, [(number, index) for number in range(6) for index in range(MANY)])

    def test_errors_for_any_objects(self):
        for call in (broken, keeps):
            for thing in objects():
                with self.subTest(f"{call.__name__}: {repr(thing)[:60]}"):
                    if not same(thing, []):
                        self.assertRaises(InvalidBook, call, SCHEMA, thing, ROWS)
                        self.assertRaises(InvalidBook, call, SCHEMA, thing, thing)
                    self.assertRaises(InvalidBook, call, SCHEMA, [thing], ROWS)
                    self.assertRaises(InvalidRows, call, SCHEMA, BOOK, thing)
                    self.assertRaises(InvalidRows, call, SCHEMA, [], thing)
                    self.assertRaises(InvalidRows, call, SCHEMA, BOOK, {**ROWS, "land": [thing]})
            for rule in WRONG_RULES:
                self.assertRaises(InvalidBook, call, SCHEMA, [rule], ROWS)
            self.assertRaises(InvalidBook, call, SCHEMA, BOOK[:1] * 7, ROWS)
            self.assertRaises(InvalidBook, call, SCHEMA, tuple(BOOK), ROWS)
            self.assertRaises(InvalidRows, call, SCHEMA, BOOK, {**ROWS, "town": [((1, 2), (True, None))]})
            self.assertRaises(InvalidRows, call, SCHEMA, BOOK, {**ROWS, "town": [((1, 2), (1, 0))]})
            self.assertRaises(InvalidRows, call, SCHEMA, BOOK, {**ROWS, "town": [((True, 2), (True, False))]})
            self.assertRaises(InvalidRows, call, SCHEMA, BOOK, {**ROWS, "town": [((-1, 2), (True, False))]})
            self.assertRaises(InvalidRows, call, SCHEMA, BOOK, {"town": [], "shop": []})

    def test_first_error(self):
        for call in (broken, keeps):
            self.assertRaises(InvalidBook, call, SCHEMA, None, None)
            self.assertRaises(InvalidBook, call, SCHEMA, BOOK * 3, {})
            self.assertRaises(InvalidBook, call, SCHEMA, [("sea", YES)], {"sea": []})

    def test_by_name_new_and_arguments_kept(self):
        book, rows = deepcopy(BOOK), deepcopy(ROWS)
        found = broken(rows=rows, book=book, schema=SCHEMA)
        self.assertIs(keeps(rows=rows, book=book, schema=SCHEMA), False)
        found.clear()
        broken(SCHEMA, [], rows).append(1)
        self.assertEqual(len(broken(SCHEMA, book, rows)), 4)
        self.assertEqual(broken(SCHEMA, [], rows), [])
        self.assertRaises(InvalidRows, broken, SCHEMA, book, {**rows, "land": None})
        self.assertRaises(InvalidBook, keeps, SCHEMA, book + book + book, rows)
        self.assertTrue(same([book, rows], [BOOK, ROWS]))


if __name__ == "__main__":
    unittest.main()
