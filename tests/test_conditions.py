"""Conditions: points [2], [5] and [17]."""

import unittest
from copy import deepcopy
from random import Random

from tests.objects import doubled, nested, objects, plainly_meets, same, some_condition, some_rows
from toldbyrest.conditions import depth, flags_in, has_parts, is_condition, meets
from toldbyrest.errors import InvalidCondition, InvalidRows, UnknownRow, UnknownTable
from toldbyrest.schemas import Schema

SCHEMA = Schema({
    "town": ((("id", "town"), ("of", "town"), ("in", "land")), ("old", "busy")),
    "shop": ((("at", "town"),), ("open",)),
    "land": ((("id", "land"),), ()),
})
ROWS = {
    "town": [((1, 2, 1), (True, False)), ((2, 3, 1), (False, True)), ((3, 3, 2), (False, False))],
    "shop": [((1,), (False,)), ((3,), (True,)), ((3,), (False,))],
    "land": [((1,), ())],
}
EMPTY = {"town": [], "shop": [], "land": []}
YES = ("yes",)
OLD = ("flag", "old")
ABOVE = ("has", "of", "town", "id", YES)
MANY = 3000

CONDITIONS = [
    YES, OLD, ("flag", "busy"), ("not", YES), ("not", ("not", OLD)), ("and", OLD, YES), ("or", YES, ("flag", "busy")),
    ABOVE, ("has", "id", "town", "of", OLD), ("has", "id", "town", "id", OLD), ("has", "in", "land", "id", YES),
    ("has", "id", "shop", "at", ("flag", "open")), ("has", "of", "town", "of", ABOVE),
    ("has", "in", "land", "id", ("has", "id", "town", "in", OLD)),
]

WRONG_CONDITIONS = [
    (), ("yes", "yes"), ("yes", None), ("flag",), ("flag", "old", "old"), ("flag", "open"), ("flag", "id"),
    ("flag", "town"), ("flag", None), ("flag", ("old",)), ("flag", ["old"]), ("flag", OLD), ("not",), ("not", YES, YES),
    ("not", "yes"), ("not", ["yes"]), ("not", ("flag", "open")), ("and", YES), ("and", YES, YES, YES), ("or", YES),
    ("or", YES, YES, YES), ("and", YES, ("flag", "open")), ("and", ("flag", "open"), YES), ("or", YES, None),
    ("or", ("no",), YES), ("and", "yes", "yes"), ("no",), ("Yes",), (YES,), ["yes"], ["flag", "old"], ["not", YES],
    ("not", ["flag", "old"]), "yes", {"yes": 1}, (True,), (None,), (("yes",),), (["yes"],),
    ("has", "id", "town", "id"), ("has", "id", "town", "id", YES, YES), ("has", "at", "town", "id", YES),
    ("has", "id", "sea", "id", YES), ("has", "id", "town", "at", YES), ("has", "old", "town", "id", YES),
    ("has", "id", "town", "old", YES), ("has", "id", "land", "id", YES), ("has", "id", "town", "in", YES),
    ("has", "in", "town", "id", YES), ("has", "id", "shop", "at", OLD), ("has", "id", "town", "id", None),
    ("has", "id", "town", "id", ["yes"]), ("has", "id", "town", "id", ("flag", "open")), ("has", None, "town", "id", YES),
    ("has", "id", ["town"], "id", YES), ("has", "id", "town", {}, YES), ("has", ["id"], "town", "id", YES),
    ["has", "id", "town", "id", YES], ("has", "id", "shop", "at", ("has", "id", "town", "id", YES)),
]


class IsConditionTest(unittest.TestCase):
    def test_conditions(self):
        for condition in CONDITIONS:
            with self.subTest(condition):
                self.assertIs(is_condition(SCHEMA, "town", condition), True)
                self.assertIs(is_condition(SCHEMA, "town", ("not", condition)), True)
                self.assertIs(is_condition(SCHEMA, "town", ("and", YES, condition)), True)
                self.assertIs(is_condition(SCHEMA, "shop", ("has", "at", "town", "of", condition)), True)

    def test_no_conditions(self):
        for thing in WRONG_CONDITIONS:
            with self.subTest(thing):
                self.assertIs(is_condition(SCHEMA, "town", thing), False)
                self.assertIs(is_condition(SCHEMA, "town", ("not", thing)), False)
                self.assertIs(is_condition(SCHEMA, "town", ("and", YES, thing)), False)
                self.assertIs(is_condition(SCHEMA, "town", ("or", thing, YES)), False)
                self.assertIs(is_condition(SCHEMA, "shop", ("has", "at", "town", "of", thing)), False)

    def test_of_which_table(self):
        self.assertIs(is_condition(SCHEMA, "shop", ("flag", "open")), True)
        self.assertIs(is_condition(SCHEMA, "town", ("flag", "open")), False)
        self.assertIs(is_condition(SCHEMA, "land", OLD), False)
        self.assertIs(is_condition(SCHEMA, "land", ("has", "id", "town", "in", OLD)), True)
        self.assertIs(is_condition(SCHEMA, "land", ("has", "id", "town", "id", OLD)), False)

    def test_any_object(self):
        for thing in objects():
            with self.subTest(repr(thing)[:60]):
                self.assertIs(is_condition(SCHEMA, "town", thing), thing == YES)
                for at in range(5):
                    look = ("has", "id", "town", "of", OLD)
                    wrong = look[:at] + (thing,) + look[at + 1:]
                    self.assertIs(is_condition(SCHEMA, "town", wrong), at == 4 and thing == YES)
                self.assertIs(is_condition(SCHEMA, "town", ("flag", thing)), False)
                self.assertRaises(UnknownTable, is_condition, SCHEMA, thing, YES)
                self.assertRaises(UnknownTable, is_condition, SCHEMA, thing, thing)

    def test_sixteen_levels(self):
        deep = nested(15, lambda part: ("has", "of", "town", "id", part), OLD)
        self.assertIs(is_condition(SCHEMA, "town", deep), True)
        self.assertIs(is_condition(SCHEMA, "town", nested(15, lambda part: ("not", part), ("flag", "open"))), False)
        self.assertIs(is_condition(SCHEMA, "town", doubled(16, "and", YES)), True)
        self.assertIs(is_condition(SCHEMA, "town", doubled(16, "or", ("flag", "open"))), False)

    def test_by_name_and_argument_kept(self):
        self.assertIs(is_condition(thing=OLD, table="town", schema=SCHEMA), True)
        things = ("not", ["flag", {"old": [1]}])
        before = deepcopy(things)
        self.assertIs(is_condition(SCHEMA, "town", things), False)
        self.assertTrue(same(things, before))


class MeetsTest(unittest.TestCase):
    def met(self, table, condition, rows=ROWS):
        return [meets(SCHEMA, rows, table, index, condition) for index in range(len(rows[table]))]

    def test_words(self):
        self.assertEqual(self.met("town", YES), [True, True, True])
        self.assertEqual(self.met("town", OLD), [True, False, False])
        self.assertEqual(self.met("town", ("flag", "busy")), [False, True, False])
        self.assertEqual(self.met("town", ("not", OLD)), [False, True, True])
        self.assertEqual(self.met("town", ("or", OLD, ("flag", "busy"))), [True, True, False])
        self.assertEqual(self.met("town", ("and", ("not", OLD), ("not", ("flag", "busy")))), [False, False, True])
        self.assertEqual(self.met("town", ("and", OLD, ("flag", "busy"))), [False, False, False])

    def test_and_and_or_of_all_answers(self):
        rows = {"town": [((1, 1, 1), (one, two)) for one in (False, True) for two in (False, True)], **{
            "shop": [], "land": []}}
        both = [OLD, ("flag", "busy")]
        self.assertEqual(self.met("town", ("and", *both), rows), [False, False, False, True])
        self.assertEqual(self.met("town", ("or", *both), rows), [False, True, True, True])

    def test_answers_are_bools(self):
        for condition in CONDITIONS:
            for index in range(3):
                self.assertIs(type(meets(SCHEMA, ROWS, "town", index, condition)), bool)

    def test_has(self):
        self.assertEqual(self.met("town", ("has", "id", "shop", "at", YES)), [True, False, True])
        self.assertEqual(self.met("town", ("has", "id", "shop", "at", ("flag", "open"))), [False, False, True])
        self.assertEqual(self.met("town", ("has", "id", "town", "of", YES)), [False, True, True])
        self.assertEqual(self.met("town", ("has", "in", "land", "id", YES)), [True, True, False])
        self.assertEqual(self.met("town", ("has", "of", "town", "id", ("flag", "busy"))), [True, False, False])
        self.assertEqual(self.met("shop", ("has", "at", "town", "id", OLD)), [True, False, False])

    def test_a_look_at_the_row_itself(self):
        rows = {**EMPTY, "town": [((1, 1, 0), (True, False)), ((2, 2, 0), (False, False))]}
        self.assertEqual(self.met("town", ("has", "of", "town", "id", OLD), rows), [True, False])
        self.assertEqual(self.met("town", ("has", "id", "town", "id", YES), rows), [True, True])
        self.assertEqual(self.met("town", ("has", "id", "town", "id", ("not", OLD)), rows), [False, True])

    def test_has_within_has(self):
        self.assertEqual(self.met("town", ("has", "of", "town", "id", ABOVE)), [True, True, True])
        twice = ("has", "of", "town", "id", ("has", "of", "town", "id", ("flag", "busy")))
        self.assertEqual(self.met("town", twice), [False, False, False])
        back = ("has", "id", "town", "of", ("has", "id", "town", "of", OLD))
        self.assertEqual(self.met("town", back), [False, False, True])
        near = ("has", "in", "town", "in", ("has", "id", "shop", "at", YES))
        self.assertEqual(self.met("town", near), [True, True, True])
        shops = ("has", "at", "town", "id", ("has", "in", "town", "in", ("flag", "busy")))
        self.assertEqual(self.met("shop", shops), [True, False, False])

    def test_same_words_of_different_tables(self):
        schema = Schema({"a": ((("i", "k"), ("j", "k")), ("f",)), "b": ((("i", "k"), ("j", "k")), ("f",))})
        rows = {"a": [((1, 2), (True,)), ((2, 1), (True,))], "b": [((1, 5), (False,)), ((9, 2), (True,))]}
        both = ("and", ("has", "i", "a", "i", ("flag", "f")), ("has", "i", "b", "i", ("flag", "f")))
        self.assertEqual([meets(schema, rows, "a", index, both) for index in range(2)], [False, False])
        either = ("or", ("has", "j", "b", "j", ("flag", "f")), ("has", "i", "b", "j", ("flag", "f")))
        self.assertEqual([meets(schema, rows, "a", index, either) for index in range(2)], [True, True])
        one = ("and", ("has", "j", "b", "j", ("flag", "f")), ("not", ("has", "i", "b", "j", ("flag", "f"))))
        self.assertEqual([meets(schema, rows, "a", index, one) for index in range(2)], [True, False])

    def test_no_rows_and_equal_rows(self):
        rows = {**EMPTY, "town": [((1, 1, 1), (True, False))] * 2}
        self.assertEqual(self.met("town", ("has", "id", "shop", "at", YES), rows), [False, False])
        self.assertEqual(self.met("town", ("not", ("has", "id", "shop", "at", YES)), rows), [True, True])
        self.assertEqual(self.met("town", ("has", "of", "town", "id", OLD), rows), [True, True])

    def test_values_of_many_digits(self):
        one = 10 ** 39
        rows = {**EMPTY, "town": [((one, 0, 0), (True, False)), ((one + 1, one, 0), (False, False))]}
        self.assertEqual(self.met("town", ("has", "of", "town", "id", YES), rows), [False, True])

    def test_as_the_document_says_it(self):
        random = Random(17)
        for _ in range(400):
            rows = some_rows(random, SCHEMA)
            table = random.choice(SCHEMA.tables)
            condition = some_condition(random, SCHEMA, table, 6)
            self.assertIs(is_condition(SCHEMA, table, condition), True)
            expected = [plainly_meets(SCHEMA, rows, table, index, condition) for index in range(len(rows[table]))]
            self.assertEqual(self.met(table, condition, rows), expected, (rows, table, condition))

    def test_sixteen_levels_and_many_rows(self):
        town = [((at, at + 1, 0), (at == MANY - 1, False)) for at in range(MANY)]
        rows = {**EMPTY, "town": town}
        chain = nested(15, lambda part: ("has", "of", "town", "id", part), OLD)
        self.assertIs(meets(SCHEMA, rows, "town", MANY - 16, chain), True)
        self.assertIs(meets(SCHEMA, rows, "town", MANY - 15, chain), False)
        crowd = nested(15, lambda part: ("has", "in", "town", "in", part), OLD)
        self.assertIs(meets(SCHEMA, rows, "town", 0, crowd), True)
        self.assertIs(meets(SCHEMA, rows, "town", 0, ("has", "in", "town", "in", doubled(15, "or", OLD))), True)
        self.assertIs(meets(SCHEMA, rows, "town", 0, doubled(16, "and", ("not", OLD))), True)

    def test_errors_for_any_objects(self):
        for thing in objects():
            with self.subTest(repr(thing)[:60]):
                self.assertRaises(InvalidRows, meets, SCHEMA, thing, "town", 0, YES)
                self.assertRaises(UnknownTable, meets, SCHEMA, ROWS, thing, 0, YES)
                if not same(thing, 0) and not same(thing, 1):
                    self.assertRaises(UnknownRow, meets, SCHEMA, ROWS, "town", thing, YES)
                if thing != YES:
                    self.assertRaises(InvalidCondition, meets, SCHEMA, ROWS, "town", 0, thing)
        for thing in WRONG_CONDITIONS:
            self.assertRaises(InvalidCondition, meets, SCHEMA, ROWS, "town", 0, thing)

    def test_unknown_rows(self):
        for index in (3, -1, True, False, None, "0", 10 ** 39, 0.0):
            with self.subTest(index):
                self.assertRaises(UnknownRow, meets, SCHEMA, ROWS, "town", index, YES)
        self.assertRaises(UnknownRow, meets, SCHEMA, EMPTY, "town", 0, YES)
        self.assertRaises(UnknownRow, meets, SCHEMA, ROWS, "land", 1, YES)

    def test_first_error(self):
        self.assertRaises(InvalidRows, meets, SCHEMA, {**ROWS, "land": ()}, None, None, None)
        self.assertRaises(UnknownTable, meets, SCHEMA, ROWS, {}, None, None)
        self.assertRaises(UnknownRow, meets, SCHEMA, ROWS, "town", 3, None)
        self.assertRaises(InvalidCondition, meets, SCHEMA, ROWS, "town", 2, None)

    def test_by_name_and_arguments_kept(self):
        rows = deepcopy(ROWS)
        self.assertIs(meets(condition=ABOVE, index=0, table="town", rows=rows, schema=SCHEMA), True)
        self.assertRaises(InvalidCondition, meets, SCHEMA, rows, "town", 0, OLD[:1])
        self.assertTrue(same(rows, ROWS))


class PartsTest(unittest.TestCase):
    inner = ("has", "id", "shop", "at", ("flag", "open"))
    outer = ("has", "of", "town", "id", ("and", OLD, inner))

    def test_depth(self):
        self.assertEqual([depth(condition) for condition in (YES, OLD, self.inner, self.outer)], [0, 0, 1, 2])
        self.assertEqual(depth(("not", self.inner)), 1)
        self.assertEqual(depth(("and", self.inner, self.outer)), 2)
        self.assertEqual(depth(("or", self.outer, YES)), 2)
        self.assertEqual(depth(("or", YES, ("has", "of", "town", "id", self.outer))), 3)
        self.assertEqual(depth(("and", self.inner, self.inner)), 1)

    def test_has_parts_in_the_order_in_which_they_begin(self):
        inner = ("town",) + self.inner[1:]
        outer = ("town",) + self.outer[1:]
        self.assertEqual(has_parts("town", YES), [])
        self.assertEqual(has_parts("town", ("not", OLD)), [])
        self.assertEqual(has_parts("town", self.outer), [outer, inner])
        self.assertEqual(has_parts("town", ("or", self.inner, self.outer)), [inner, outer, inner])
        self.assertEqual(has_parts("town", ("and", self.outer, ("not", self.inner))), [outer, inner, inner])

    def test_has_parts_name_the_table_that_looks(self):
        look = ("has", "at", "town", "id", ("has", "in", "land", "id", ("has", "id", "town", "in", self.inner)))
        self.assertEqual([part[:4] for part in has_parts("shop", look)], [
            ("shop", "at", "town", "id"), ("town", "in", "land", "id"), ("land", "id", "town", "in"),
            ("town", "id", "shop", "at"),
        ])
        self.assertEqual([part[4] for part in has_parts("shop", look)], [look[4], look[4][4], self.inner, ("flag", "open")])

    def test_flags_in_ascend_and_differ(self):
        self.assertEqual(flags_in("town", YES), [])
        self.assertEqual(flags_in("town", OLD), [("town", "old")])
        self.assertEqual(flags_in("land", OLD), [("land", "old")])
        self.assertEqual(flags_in("town", self.outer), [("shop", "open"), ("town", "old")])
        both = ("or", ("not", OLD), ("and", ("flag", "busy"), OLD))
        self.assertEqual(flags_in("town", both), [("town", "busy"), ("town", "old")])
        look = ("has", "id", "town", "in", ("or", OLD, ("has", "id", "shop", "at", ("flag", "old"))))
        self.assertEqual(flags_in("land", look), [("shop", "old"), ("town", "old")])

    def test_sixteen_levels(self):
        chain = nested(15, lambda part: ("has", "of", "town", "id", part), OLD)
        self.assertEqual(depth(chain), 15)
        self.assertEqual(len(has_parts("town", chain)), 15)
        self.assertEqual(flags_in("town", chain), [("town", "old")])
        wide = doubled(14, "or", self.outer)
        self.assertEqual(depth(wide), 2)
        self.assertEqual(len(has_parts("town", wide)), 2 ** 14)
        self.assertEqual(flags_in("town", wide), [("shop", "open"), ("town", "old")])

    def test_by_name_and_new(self):
        self.assertEqual(depth(condition=self.inner), 1)
        self.assertEqual(flags_in(condition=OLD, table="town"), [("town", "old")])
        found = has_parts(condition=self.inner, table="town")
        found.clear()
        flags_in("town", OLD).clear()
        self.assertEqual(has_parts("town", self.inner), [("town",) + self.inner[1:]])
        self.assertEqual(flags_in("town", OLD), [("town", "old")])


if __name__ == "__main__":
    unittest.main()
