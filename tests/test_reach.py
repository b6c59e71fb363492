"""Reach: points [2], [14] and [36]."""

import unittest
from copy import deepcopy
from random import Random

from tests.objects import (
    objects, plainly_cut_out, plainly_near, same, some_book, some_rows, some_schema, some_telling_book,
)
from toldbyrest.candidates import candidates, worked_out
from toldbyrest.errors import InvalidNumber, InvalidRows, UnknownRow, UnknownTable
from toldbyrest.lacking import bare
from toldbyrest.reach import cut_out, near, steps_between
from toldbyrest.schemas import Schema

SCHEMA = Schema({
    "town": ((("id", "town"), ("of", "town")), ("old",)),
    "shop": ((("at", "town"),), ()),
    "land": ((("id", "land"),), ("rich", "wide")),
})
ROWS = {
    "town": [((2, 3), (None,)), ((1, 2), (True,)), ((9, 9), (False,))],
    "shop": [((1,), ()), ((3,), ()), ((7,), ()), ((7,), ())],
    "land": [((1,), (None, True)), ((1,), (False, None)), ((2,), (None, None))],
}
CALLS = [(near, [0]), (cut_out, [0]), (steps_between, ["town", 0])]


class ReachTest(unittest.TestCase):
    def check(self, schema, rows, most=5):
        """Check all calls for all rows, up to some steps, by [36] word by word; return the greatest number of steps."""
        greatest = 0
        spots = [(table, index) for table in schema.tables for index in range(len(rows[table]))]
        for table, index in spots:
            by_steps = []
            for steps in range(most + 1):
                reached = plainly_near(schema, rows, table, index, steps)
                by_steps.append(reached)
                expected = {name: sorted(at for own, at in reached if own == name) for name in schema.tables}
                found = near(schema, rows, table, index, steps)
                self.assertTrue(same(found, expected))
                self.assertEqual(list(found), schema.tables)
                cut = cut_out(schema, rows, table, index, steps)
                self.assertTrue(same(cut, plainly_cut_out(schema, rows, table, index, steps)))
                self.assertEqual(list(cut[0]), schema.tables)
                self.assertEqual(cut[0][table][cut[1]], rows[table][index])
            for other, number in spots:
                steps = [steps for steps in range(most + 1) if (other, number) in by_steps[steps]]
                if steps or len(spots) <= most:
                    expected = steps[0] if steps else None
                    self.assertTrue(same(steps_between(schema, rows, table, index, other, number), expected))
                    greatest = max(greatest, expected or 0)
        return greatest

    def test_steps(self):
        self.assertEqual(self.check(SCHEMA, ROWS), 3)
        self.assertEqual(near(SCHEMA, ROWS, "shop", 0, 1), {"land": [], "shop": [0], "town": [1]})
        self.assertEqual(near(SCHEMA, ROWS, "shop", 0, 3), {"land": [], "shop": [0, 1], "town": [0, 1]})
        # A value of another kind is none that rows have in common.
        self.assertEqual(near(SCHEMA, ROWS, "land", 0, 5), {"land": [0, 1], "shop": [], "town": []})

    def test_no_steps_and_more_than_there_are_rows(self):
        for table in SCHEMA.tables:
            for index in range(len(ROWS[table])):
                for steps in (0, 1, 8, 10 ** 39):
                    expected = plainly_cut_out(SCHEMA, ROWS, table, index, min(steps, 20))
                    self.assertEqual(cut_out(SCHEMA, ROWS, table, index, steps), expected)
                self.assertEqual(cut_out(SCHEMA, ROWS, table, index, 0)[1], 0)
                self.assertEqual(steps_between(SCHEMA, ROWS, table, index, table, index), 0)

    def test_rows_beside_each_other(self):
        # One step from itself alone, by two columns with one value or by no other row's value.
        self.assertEqual(near(SCHEMA, ROWS, "town", 2, 1), {"land": [], "shop": [], "town": [2]})
        # Equal rows are two rows.
        self.assertEqual(steps_between(SCHEMA, ROWS, "shop", 2, "shop", 3), 1)
        self.assertEqual(cut_out(SCHEMA, ROWS, "shop", 3, 0), ({"land": [], "shop": [((7,), ())], "town": []}, 0))
        self.assertEqual(cut_out(SCHEMA, ROWS, "shop", 3, 1), ({"land": [], "shop": [((7,), ())] * 2, "town": []}, 1))
        # Between some there are no steps at all.
        self.assertIsNone(steps_between(SCHEMA, ROWS, "shop", 0, "shop", 2))
        self.assertIsNone(steps_between(SCHEMA, ROWS, "land", 0, "land", 2))
        self.assertIsNone(steps_between(SCHEMA, ROWS, "shop", 0, "land", 0))
        self.assertEqual(steps_between(SCHEMA, ROWS, "shop", 0, "shop", 1), 3)
        self.assertEqual(steps_between(SCHEMA, ROWS, "shop", 1, "town", 1), 2)

    def test_long_chains_and_many_rows(self):
        schema = Schema({"town": ((("id", "town"), ("of", "town")), ("old",))})
        chain = {"town": [((number, number + 1), (None,)) for number in range(3000)]}
        self.assertEqual(steps_between(schema, chain, "town", 0, "town", 2999), 2999)
        self.assertEqual(steps_between(schema, chain, "town", 2000, "town", 500), 1500)
        self.assertEqual(near(schema, chain, "town", 1500, 2), {"town": list(range(1498, 1503))})
        rows, index = cut_out(schema, chain, "town", 1500, 1200)
        self.assertEqual([rows["town"], index], [chain["town"][300:2701], 1200])
        star = {"town": [((7, 10 ** 39 + number), (True,)) for number in range(3000)]}
        self.assertEqual(near(schema, star, "town", 5, 1), {"town": list(range(3000))})
        self.assertEqual(steps_between(schema, star, "town", 5, "town", 2900), 1)

    def test_flags_make_no_difference(self):
        for flags in ((None,), (True,), (False,)):
            rows = dict(ROWS, town=[(values, flags) for values, _ in ROWS["town"]])
            self.assertEqual(near(SCHEMA, rows, "town", 0, 1), near(SCHEMA, ROWS, "town", 0, 1))

    def test_at_random(self):
        random = Random(36)
        greatest = {}
        for _ in range(120):
            schema = some_schema(random)
            rows = some_rows(random, schema)
            if sum(len(rows[table]) for table in rows) <= 9:
                lacking = [place for place in schema.flag_places if random.random() < 0.5]
                greatest[self.check(schema, bare(schema, rows, lacking), 9)] = True
        self.assertTrue({0, 1, 2, 3} <= set(greatest))

    def test_candidates_hang_on_no_rows_that_are_farther(self):
        random = Random(14)
        cut_off = {}
        for turn in range(150):
            schema = some_schema(random)
            if schema.flag_places and turn % 2:
                book, lacking = some_telling_book(random, schema)
            else:
                book, lacking = some_book(random, schema), schema.flag_places[:2]
            rows = bare(schema, some_rows(random, schema), lacking)
            for number in range(3):
                everywhere = candidates(schema, book, lacking, rows, number)
                told = worked_out(schema, book, lacking, rows, number)
                for table in schema.tables:
                    for index in range(len(rows[table])):
                        cut, at = cut_out(schema, rows, table, index, number)
                        self.assertEqual(candidates(schema, book, lacking, cut, number)[table][at], everywhere[table][index])
                        self.assertEqual(worked_out(schema, book, lacking, cut, number)[table][at], told[table][index])
                        cut_off[number, cut == rows] = True
        self.assertEqual(len(cut_off), 6)


class ErrorsTest(unittest.TestCase):
    def test_errors_for_any_objects(self):
        for call, more in CALLS:
            for thing in objects():
                with self.subTest(f"{call.__name__}: {repr(thing)[:60]}"):
                    nothing = [thing] * len(more)
                    self.assertRaises(InvalidRows, call, SCHEMA, thing, "town", 0, *more)
                    self.assertRaises(InvalidRows, call, SCHEMA, thing, thing, thing, *nothing)
                    if not same(thing, []):
                        self.assertRaises(InvalidRows, call, SCHEMA, dict(ROWS, town=thing), "town", 0, *more)
                    self.assertRaises(InvalidRows, call, SCHEMA, dict(ROWS, town=[thing]), "town", 0, *more)
                    self.assertRaises(UnknownTable, call, SCHEMA, ROWS, thing, 0, *more)
                    self.assertRaises(UnknownTable, call, SCHEMA, ROWS, thing, thing, *nothing)
                    if not (same(thing, 0) or same(thing, 1)):
                        self.assertRaises(UnknownRow, call, SCHEMA, ROWS, "town", thing, *more)
                        self.assertRaises(UnknownRow, call, SCHEMA, ROWS, "town", thing, *nothing)

    def test_wrong_rows(self):
        for flags in ((0,), (1,), ("",), (True, True), (), [True], True, None, ((None,),)):
            for call, more in CALLS:
                rows = dict(ROWS, town=[((1, 2), flags)])
                self.assertRaises(InvalidRows, call, SCHEMA, rows, "town", 0, *more)
        wrong = [((True, 2), (None,)), ((-1, 2), (None,)), ([1, 2], (None,)), ((1, 2), (None,), ()), ((1,), (None,))]
        for row in wrong + [[(1, 2), (None,)]]:
            for call, more in CALLS:
                self.assertRaises(InvalidRows, call, SCHEMA, dict(ROWS, town=[row]), "town", 0, *more)
        for call, more in CALLS:
            self.assertRaises(InvalidRows, call, SCHEMA, dict(ROWS, town=tuple(ROWS["town"])), "town", 0, *more)
            self.assertRaises(InvalidRows, call, SCHEMA, dict(ROWS, sea=[]), "town", 0, *more)
            self.assertRaises(InvalidRows, call, SCHEMA, {"town": ROWS["town"], "shop": []}, "town", 0, *more)

    def test_unknown_rows(self):
        for call, more in CALLS:
            for index in (3, -1, True, None, "0", (0,), 10 ** 39):
                self.assertRaises(UnknownRow, call, SCHEMA, ROWS, "town", index, *more)
            self.assertRaises(UnknownRow, call, SCHEMA, dict(ROWS, town=[]), "town", 0, *more)
            self.assertRaises(UnknownTable, call, SCHEMA, ROWS, "sea", 7, *more)
        for thing in objects():
            with self.subTest(repr(thing)[:60]):
                self.assertRaises(UnknownTable, steps_between, SCHEMA, ROWS, "town", 0, thing, 0)
                self.assertRaises(UnknownTable, steps_between, SCHEMA, ROWS, "town", 0, thing, thing)
                if not (same(thing, 0) or same(thing, 1)):
                    self.assertRaises(UnknownRow, steps_between, SCHEMA, ROWS, "town", 0, "town", thing)

    def test_invalid_number(self):
        for call in (near, cut_out):
            for thing in objects() + [-1, True, False, None, "0", [0], (0,)]:
                if not isinstance(thing, int) or isinstance(thing, bool) or thing < 0:
                    self.assertRaises(InvalidNumber, call, SCHEMA, ROWS, "town", 0, thing)

    def test_first_error(self):
        for call, more in CALLS:
            nothing = [None] * len(more)
            self.assertRaises(InvalidRows, call, SCHEMA, None, None, None, *nothing)
            self.assertRaises(UnknownTable, call, SCHEMA, ROWS, None, None, *nothing)
            self.assertRaises(UnknownRow, call, SCHEMA, ROWS, "town", None, *nothing)
        # The first row's errors come ahead of the second one's.
        self.assertRaises(UnknownRow, steps_between, SCHEMA, ROWS, "town", 3, "sea", 0)
        self.assertRaises(UnknownTable, steps_between, SCHEMA, ROWS, "town", 0, "sea", 9)
        self.assertRaises(UnknownRow, steps_between, SCHEMA, ROWS, "town", 0, "shop", 4)

    def test_by_name_new_and_arguments_kept(self):
        rows = deepcopy(ROWS)
        self.assertEqual(steps_between(number=1, other="shop", index=0, table="shop", rows=rows, schema=SCHEMA), 3)
        for call in (near, cut_out):
            found = call(steps=10, index=0, table="town", rows=rows, schema=SCHEMA)
            again = deepcopy(found)
            parts = found[0] if call == cut_out else found
            self.assertEqual(len({id(parts[table]) for table in parts} | {id(rows[table]) for table in rows}), 6)
            for table in parts:
                parts[table].clear()
            parts.clear()
            self.assertEqual(call(SCHEMA, rows, "town", 0, 10), again)
            self.assertRaises(InvalidNumber, call, SCHEMA, rows, "town", 0, None)
        self.assertRaises(UnknownRow, steps_between, SCHEMA, rows, "town", 0, "town", 3)
        self.assertTrue(same(rows, ROWS))


if __name__ == "__main__":
    unittest.main()
