"""Rows: points [2], [4] and [16]."""

import unittest
from copy import deepcopy

from tests.objects import objects, same
from toldbyrest.errors import InvalidRows, UnknownColumn, UnknownFlag, UnknownRow, UnknownTable
from toldbyrest.rows import are_rows, beside, rows_at, turned
from toldbyrest.schemas import Schema

SCHEMA = Schema({
    "town": ((("id", "town"), ("in", "land")), ("old", "busy")),
    "shop": ((("at", "town"),), ()),
})
ROWS = {
    "town": [((1, 5), (True, False)), ((2, 1), (False, False)), ((1, 0), (True, True))],
    "shop": [((1,), ()), ((1,), ())],
}
EMPTY = {"town": [], "shop": []}
MANY = 3000
HUGE = 10 ** 39

WRONG_ROWS = [
    ((1,), (True, False)), ((1, 2, 3), (True, False)), ((1, 2), (True,)), ((1, 2), (True, False, True)),
    ((1, 2), ()), ((), (True, False)), ((1, 2),), ((1, 2), (True, False), ()), (),
    ((-1, 2), (True, False)), ((1, -2), (True, False)), ((True, 2), (True, False)), ((1, False), (True, False)),
    ((1, "2"), (True, False)), ((None, 2), (True, False)), ((1, (2,)), (True, False)),
    ((1, 2), (1, False)), ((1, 2), (True, 0)), ((1, 2), (True, None)), ((1, 2), ("y", False)),
    [(1, 2), (True, False)], ([1, 2], (True, False)), ((1, 2), [True, False]), ("12", (True, False)),
    {"values": (1, 2)}, None, True, 0, "row",
]


class AreRowsTest(unittest.TestCase):
    def test_rows(self):
        for rows in [ROWS, EMPTY, {"shop": [], "town": ROWS["town"]}, dict(reversed(ROWS.items()))]:
            with self.subTest(rows):
                self.assertIs(are_rows(SCHEMA, rows), True)

    def test_values_of_many_digits(self):
        self.assertIs(are_rows(SCHEMA, {"town": [((HUGE, 0), (True, True))], "shop": [((HUGE * 10,), ())]}), True)

    def test_many_rows(self):
        rows = {"town": [((at, 0), (True, False)) for at in range(MANY)], "shop": []}
        self.assertIs(are_rows(SCHEMA, rows), True)
        rows["town"][-1] = ((0, 0), (True, 0))
        self.assertIs(are_rows(SCHEMA, rows), False)

    def test_wrong_rows(self):
        for row in WRONG_ROWS:
            with self.subTest(row):
                self.assertIs(are_rows(SCHEMA, {"town": [row], "shop": []}), False)
                self.assertIs(are_rows(SCHEMA, {"town": [ROWS["town"][0], row], "shop": []}), False)
        self.assertIs(are_rows(SCHEMA, {"town": [], "shop": [((1,), (True,))]}), False)

    def test_wrong_tables(self):
        wrong = [
            {}, {"town": []}, {"shop": []}, {"town": [], "shop": [], "sea": []}, {"town": [], "sea": []},
            {"town": [], 0: []}, {"town": (), "shop": []}, {"town": [], "shop": ()}, {"town": [], "shop": None},
            {"town": [], "shop": {}}, {"town": [], "shop": ""}, {"town": [], "shop": 0}, [[], []], ([], []),
            [("town", []), ("shop", [])], {("town",): [], ("shop",): []},
        ]
        for thing in wrong:
            with self.subTest(thing):
                self.assertIs(are_rows(SCHEMA, thing), False)

    def test_any_object(self):
        for thing in objects():
            with self.subTest(repr(thing)[:60]):
                self.assertIs(are_rows(SCHEMA, thing), False)
                self.assertIs(are_rows(SCHEMA, {"town": [], "shop": [thing]}), False)
                if not same(thing, []):
                    self.assertIs(are_rows(SCHEMA, {"town": thing, "shop": []}), False)

    def test_any_object_within_a_row(self):
        for thing in objects():
            with self.subTest(repr(thing)[:60]):
                is_value = type(thing) is int and thing >= 0
                self.assertIs(are_rows(SCHEMA, {"town": [((1, thing), (True, True))], "shop": []}), is_value)
                is_flag = type(thing) is bool
                self.assertIs(are_rows(SCHEMA, {"town": [((1, 1), (True, thing))], "shop": []}), is_flag)

    def test_by_name_and_argument_kept(self):
        rows = deepcopy(ROWS)
        self.assertIs(are_rows(schema=SCHEMA, thing=rows), True)
        self.assertTrue(same(rows, ROWS))


class RowsAtTest(unittest.TestCase):
    def test_indexes_ascend(self):
        self.assertEqual(rows_at(SCHEMA, ROWS, "town", "id", 1), [0, 2])
        self.assertEqual(rows_at(SCHEMA, ROWS, "town", "in", 1), [1])
        self.assertEqual(rows_at(SCHEMA, ROWS, "town", "in", 0), [2])
        self.assertEqual(rows_at(SCHEMA, ROWS, "shop", "at", 1), [0, 1])
        self.assertEqual(rows_at(SCHEMA, ROWS, "shop", "at", 2), [])
        self.assertEqual(rows_at(SCHEMA, EMPTY, "shop", "at", 1), [])

    def test_many_rows(self):
        rows = {"town": [((at % 3, HUGE), (True, False)) for at in range(MANY)], "shop": []}
        self.assertEqual(rows_at(SCHEMA, rows, "town", "id", 2), list(range(2, MANY, 3)))
        self.assertEqual(rows_at(SCHEMA, rows, "town", "in", HUGE), list(range(MANY)))

    def test_any_object_as_value(self):
        rows = {"town": [((0, 1), (True, False))], "shop": []}
        for thing in objects() + [1.0, 0.0]:
            with self.subTest(repr(thing)[:60]):
                found = [[0] if same(thing, value) else [] for value in (0, 1)]
                self.assertEqual([rows_at(SCHEMA, rows, "town", column, thing) for column in ("id", "in")], found)

    def test_errors_for_any_objects(self):
        for thing in objects():
            with self.subTest(repr(thing)[:60]):
                self.assertRaises(InvalidRows, rows_at, SCHEMA, thing, "town", "id", 1)
                self.assertRaises(UnknownTable, rows_at, SCHEMA, ROWS, thing, "id", 1)
                self.assertRaises(UnknownColumn, rows_at, SCHEMA, ROWS, "town", thing, 1)
        self.assertRaises(UnknownColumn, rows_at, SCHEMA, ROWS, "town", "old", 1)
        self.assertRaises(UnknownColumn, rows_at, SCHEMA, ROWS, "shop", "id", 1)

    def test_first_error(self):
        self.assertRaises(InvalidRows, rows_at, SCHEMA, None, None, None, None)
        self.assertRaises(InvalidRows, rows_at, SCHEMA, None, "town", None, None)
        self.assertRaises(UnknownTable, rows_at, SCHEMA, ROWS, [], [], [])
        self.assertRaises(UnknownColumn, rows_at, SCHEMA, ROWS, "shop", [], [])

    def test_by_name_new_and_arguments_kept(self):
        rows = deepcopy(ROWS)
        found = rows_at(value=1, column="at", table="shop", rows=rows, schema=SCHEMA)
        self.assertEqual(found, [0, 1])
        found.append(7)
        self.assertEqual(rows_at(SCHEMA, rows, "shop", "at", 1), [0, 1])
        self.assertRaises(UnknownColumn, rows_at, SCHEMA, rows, "shop", "id", 1)
        self.assertTrue(same(rows, ROWS))


class BesideTest(unittest.TestCase):
    def test_others_come_behind_and_are_moved(self):
        others = {"town": [((0, 3), (False, True))], "shop": [((1,), ()), ((0,), ())]}
        result = beside(SCHEMA, ROWS, others)
        expected = {
            "shop": [((1,), ()), ((1,), ()), ((7,), ()), ((6,), ())],
            "town": ROWS["town"] + [((6, 9), (False, True))],
        }
        self.assertTrue(same(result, expected))

    def test_greatest_value_of_any_table_counts(self):
        rows = {"town": [((1, 2), (True, True))], "shop": [((9,), ())]}
        self.assertEqual(beside(SCHEMA, rows, rows)["town"][1], ((11, 12), (True, True)))
        self.assertEqual(beside(SCHEMA, rows, rows)["shop"], [((9,), ()), ((19,), ())])

    def test_rows_with_value_0_alone(self):
        rows = {"town": [], "shop": [((0,), ())]}
        self.assertEqual(beside(SCHEMA, rows, rows)["shop"], [((0,), ()), ((1,), ())])

    def test_no_rows(self):
        self.assertTrue(same(beside(SCHEMA, EMPTY, ROWS), {"shop": ROWS["shop"], "town": ROWS["town"]}))
        self.assertTrue(same(beside(SCHEMA, ROWS, EMPTY), {"shop": ROWS["shop"], "town": ROWS["town"]}))
        self.assertTrue(same(beside(SCHEMA, EMPTY, EMPTY), {"shop": [], "town": []}))

    def test_values_of_many_digits_and_many_rows(self):
        rows = {"town": [((HUGE, at), (True, False)) for at in range(MANY)], "shop": []}
        result = beside(SCHEMA, rows, rows)
        self.assertEqual(result["town"][:MANY], rows["town"])
        self.assertEqual(result["town"][-1], ((2 * HUGE + 1, HUGE + MANY), (True, False)))
        self.assertEqual(len(result["town"]), 2 * MANY)

    def test_errors_for_any_objects(self):
        for thing in objects():
            with self.subTest(repr(thing)[:60]):
                self.assertRaises(InvalidRows, beside, SCHEMA, thing, ROWS)
                self.assertRaises(InvalidRows, beside, SCHEMA, ROWS, thing)
                self.assertRaises(InvalidRows, beside, SCHEMA, thing, thing)
        for row in WRONG_ROWS:
            self.assertRaises(InvalidRows, beside, SCHEMA, EMPTY, {"town": [row], "shop": []})

    def test_by_name_new_and_arguments_kept(self):
        rows, others = deepcopy(ROWS), deepcopy(ROWS)
        result = beside(others=others, rows=rows, schema=SCHEMA)
        self.assertEqual(list(result), ["shop", "town"])
        self.assertTrue(same([rows, others], [ROWS, ROWS]))
        result["town"].clear()
        beside(SCHEMA, EMPTY, others)["town"].clear()
        beside(SCHEMA, rows, EMPTY)["town"].clear()
        beside(SCHEMA, rows, rows)["shop"].clear()
        self.assertTrue(same([rows, others], [ROWS, ROWS]))
        empty = beside(SCHEMA, EMPTY, EMPTY)
        self.assertIsNot(empty["shop"], empty["town"])
        self.assertRaises(InvalidRows, beside, SCHEMA, rows, {"town": []})
        self.assertTrue(same(rows, ROWS))
        self.assertEqual(EMPTY, {"town": [], "shop": []})


class TurnedTest(unittest.TestCase):
    def test_one_flag_of_one_row_is_turned(self):
        result = turned(SCHEMA, ROWS, "town", 1, "old")
        town = [((1, 5), (True, False)), ((2, 1), (True, False)), ((1, 0), (True, True))]
        self.assertTrue(same(result, {"shop": ROWS["shop"], "town": town}))
        result = turned(SCHEMA, ROWS, "town", 2, "busy")
        town = [((1, 5), (True, False)), ((2, 1), (False, False)), ((1, 0), (True, False))]
        self.assertTrue(same(result, {"shop": ROWS["shop"], "town": town}))

    def test_equal_rows_are_told_apart(self):
        rows = {"town": [((1, 1), (True, True)), ((1, 1), (True, True))], "shop": []}
        self.assertEqual(turned(SCHEMA, rows, "town", 0, "busy")["town"], [((1, 1), (True, False)), rows["town"][1]])
        self.assertEqual(turned(SCHEMA, rows, "town", 1, "busy")["town"], [rows["town"][0], ((1, 1), (True, False))])

    def test_turned_twice_is_the_same(self):
        for index in range(3):
            for flag in ("old", "busy"):
                once = turned(SCHEMA, ROWS, "town", index, flag)
                self.assertTrue(same(turned(SCHEMA, once, "town", index, flag)["town"], ROWS["town"]))

    def test_middle_flag_of_three(self):
        schema = Schema({"a": ((("b", "c"),), ("d", "e", "f"))})
        rows = {"a": [((1,), (False, False, True))]}
        self.assertTrue(same(turned(schema, rows, "a", 0, "e"), {"a": [((1,), (False, True, True))]}))

    def test_errors_for_any_objects(self):
        for thing in objects():
            with self.subTest(repr(thing)[:60]):
                self.assertRaises(InvalidRows, turned, SCHEMA, thing, "town", 0, "old")
                self.assertRaises(UnknownTable, turned, SCHEMA, ROWS, thing, 0, "old")
                self.assertRaises(UnknownFlag, turned, SCHEMA, ROWS, "town", 0, thing)
                if not same(thing, 0) and not same(thing, 1):
                    self.assertRaises(UnknownRow, turned, SCHEMA, ROWS, "town", thing, "old")

    def test_unknown_rows(self):
        for index in (3, 4, -1, -3, True, False, None, "0", HUGE):
            with self.subTest(index):
                self.assertRaises(UnknownRow, turned, SCHEMA, ROWS, "town", index, "old")
        self.assertRaises(UnknownRow, turned, SCHEMA, EMPTY, "town", 0, "old")

    def test_unknown_flags(self):
        for flag in ("id", "in", "open", "town", "flag", None, 0):
            self.assertRaises(UnknownFlag, turned, SCHEMA, ROWS, "town", 0, flag)
        self.assertRaises(UnknownFlag, turned, SCHEMA, ROWS, "shop", 0, "old")

    def test_first_error(self):
        self.assertRaises(InvalidRows, turned, SCHEMA, {}, None, None, None)
        self.assertRaises(UnknownTable, turned, SCHEMA, ROWS, None, None, None)
        self.assertRaises(UnknownRow, turned, SCHEMA, ROWS, "shop", 2, "old")
        self.assertRaises(UnknownFlag, turned, SCHEMA, ROWS, "shop", 1, "old")

    def test_by_name_new_and_arguments_kept(self):
        rows = deepcopy(ROWS)
        result = turned(flag="old", index=0, table="town", rows=rows, schema=SCHEMA)
        self.assertEqual(list(result), ["shop", "town"])
        self.assertTrue(same(rows, ROWS))
        result["shop"].clear()
        result["town"].clear()
        self.assertRaises(UnknownFlag, turned, SCHEMA, rows, "town", 0, "open")
        self.assertTrue(same(rows, ROWS))


if __name__ == "__main__":
    unittest.main()
