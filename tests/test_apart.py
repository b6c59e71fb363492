"""Data apart: points [2], [8], [12], [14] and [30]."""

import unittest
from copy import deepcopy
from random import Random

from tests.objects import (
    chain, exactly, objects, plainly_cut_out, same, some_book, some_condition, some_schema, some_telling_book,
)
from toldbyrest.apart import data_apart, data_behind, data_near
from toldbyrest.books import keeps
from toldbyrest.candidates import worked_out
from toldbyrest.errors import InvalidBook, InvalidLacking, InvalidNumber, UnknownFlag, UnknownTable
from toldbyrest.lacking import bare, is_lacking
from toldbyrest.looks import looks
from toldbyrest.pairs import rounds_of_pairs
from toldbyrest.rows import are_rows
from toldbyrest.schemas import Schema
from toldbyrest.told import levels, rounds_needed

SCHEMA = Schema({
    "town": ((("id", "town"), ("of", "town")), ("old", "busy")),
    "shop": ((("at", "town"),), ("open",)),
    "land": ((("id", "land"),), ()),
})
PLACES = [("shop", "open"), ("town", "busy"), ("town", "old")]
OF_TOWN = [("town", "busy")]
YES = ("yes",)
NO = ("not", YES)
OLD = ("flag", "old")
BUSY = ("flag", "busy")
OPEN = ("flag", "open")
SEEN = ("has", "id", "shop", "at", OPEN)
BOOK = [("town", exactly("busy", SEEN))]
ALL = [("shop", "open"), ("town", "busy")]
CALLS = [(data_apart, []), (data_behind, [0]), (data_near, [0])]
MANY = 3000


class ApartTest(unittest.TestCase):
    def check_data(self, schema, book, rows, table, index):
        """Check that rows are data with a row; return how many rows there are."""
        self.assertTrue(are_rows(schema, rows))
        self.assertEqual(list(rows), schema.tables)
        self.assertTrue(keeps(schema, book, rows))
        self.assertTrue(same(index, int(index)))
        self.assertTrue(0 <= index < len(rows[table]))
        many = sum(len(rows[name]) for name in rows)
        self.assertLessEqual(many, MANY)
        return many

    def check(self, schema, book, lacking, table, flag):
        """Check all three calls for a flag, up to number 3; return the most rows of data."""
        needed = rounds_needed(schema, book, lacking, table, flag)
        most = self.check_apart(schema, book, lacking, (table, flag), needed)
        for number in range(4):
            behind = data_behind(schema, book, lacking, table, flag, number)
            near = data_near(schema, book, lacking, table, flag, number)
            if needed is not None and number >= needed:
                self.assertIsNone(behind)
                self.assertIsNone(near)
            else:
                self.check_behind(schema, book, lacking, (table, flag), behind, number)
                most = max(most, self.check_near(schema, book, lacking, (table, flag), near, number))
        return most

    def check_apart(self, schema, book, lacking, place, needed):
        found = data_apart(schema, book, lacking, *place)
        self.assertEqual(found is None, needed is not None)
        if found is None:
            return 0
        self.assertIsInstance(found, tuple)
        rows, others, index = found
        self.assertEqual(bare(schema, rows, lacking), bare(schema, others, lacking))
        at = schema.flags(place[0]).index(place[1])
        self.assertIs(rows[place[0]][index][1][at], True)
        self.assertIs(others[place[0]][index][1][at], False)
        return max(self.check_data(schema, book, data, place[0], index) for data in (rows, others))

    def check_behind(self, schema, book, lacking, place, found, number):
        self.assertIsInstance(found, tuple)
        rows, index = found
        self.check_data(schema, book, rows, place[0], index)
        at = schema.flags(place[0]).index(place[1])
        flags = worked_out(schema, book, lacking, bare(schema, rows, lacking), number)[place[0]][index][1]
        self.assertIsNone(flags[at])

    def check_near(self, schema, book, lacking, place, found, number):
        self.assertIsInstance(found, tuple)
        rows, others, index = found
        most = max(self.check_data(schema, book, data, place[0], index) for data in (rows, others))
        at = schema.flags(place[0]).index(place[1])
        self.assertNotEqual(rows[place[0]][index][1][at], others[place[0]][index][1][at])
        one, other = [
            plainly_cut_out(schema, bare(schema, data, lacking), place[0], index, number) for data in (rows, others)
        ]
        self.assertEqual(one, other)
        return most

    def test_a_flag_that_is_not_told(self):
        for book in ([], BOOK, BOOK * 6):
            for place in ALL:
                self.check(SCHEMA, book, ALL, *place)
        self.check(SCHEMA, BOOK, PLACES, "town", "old")
        self.check(SCHEMA, BOOK, [("shop", "open")], "shop", "open")
        # Not told, though in a ring alone: each town is as the next one.
        self.check(SCHEMA, [("town", exactly("busy", ("has", "of", "town", "id", BUSY)))], OF_TOWN, "town", "busy")

    def test_a_flag_that_is_told_behind_one_round(self):
        self.assertEqual(rounds_needed(SCHEMA, BOOK, OF_TOWN, "town", "busy"), 1)
        self.check(SCHEMA, BOOK, OF_TOWN, "town", "busy")
        self.assertIsNotNone(data_behind(SCHEMA, BOOK, OF_TOWN, "town", "busy", 0))

    def test_a_flag_of_which_no_pair_differs(self):
        for book, place in (([("town", BUSY)], ("town", "busy")), ([("town", exactly("busy", OLD))], ("town", "busy"))):
            self.assertEqual(rounds_needed(SCHEMA, book, OF_TOWN, *place), 0)
            self.check(SCHEMA, book, OF_TOWN, *place)
        # A table that can have no rows.
        self.check(SCHEMA, [("shop", NO)], PLACES, "shop", "open")
        self.check(SCHEMA, [("town", NO)], PLACES, "shop", "open")

    def test_a_flag_that_is_told_behind_several_rounds(self):
        schema, book, lacking = chain()
        self.assertEqual(sorted(levels(schema, book, lacking).values()), [1, 2, 3])
        for place in lacking:
            self.check(schema, book, lacking, *place)
        for place in lacking:
            self.check(schema, book[:2], lacking, *place)
            self.check(schema, book, [("a", "f")] + lacking, *place)

    def test_pairs_of_which_some_are_struck_earlier(self):
        # A town is busy exactly if some town beside it, perhaps itself, has a land. Pairs of towns of which
        # one alone has a land itself are struck first, those that differ in their neighbours alone later.
        schema = Schema({"land": ((("at", "k"),), ()), "town": ((("at", "m"), ("by", "k")), ("busy",))})
        landed = ("has", "by", "land", "at", YES)
        for condition in (landed, ("not", landed)):
            book = [("town", exactly("busy", ("has", "at", "town", "at", condition)))]
            rounds = rounds_of_pairs(schema, book, OF_TOWN)
            differing = sorted({number for (one, other), number in rounds.items() if one[1] != other[1]})
            self.assertEqual(differing, [1, 2])
            self.assertEqual(rounds_needed(schema, book, OF_TOWN, "town", "busy"), 2)
            self.check(schema, book, OF_TOWN, "town", "busy")

    def test_numbers_beyond_what_is_enough(self):
        for number in (1, 2, 10 ** 39):
            for call in (data_behind, data_near):
                self.assertIsNone(call(SCHEMA, BOOK, OF_TOWN, "town", "busy", number))
        # More than three are not asked for, but do no harm.
        for number in (4, 9, 10 ** 39):
            rows, index = data_behind(SCHEMA, BOOK, ALL, "town", "busy", number)
            self.check_behind(SCHEMA, BOOK, ALL, ("town", "busy"), (rows, index), number)

    def test_what_stands_farther_than_the_steps_may_differ(self):
        # The towns are alike, and what lies one step from them cannot be.
        rows, others, index = data_near(SCHEMA, BOOK, OF_TOWN, "town", "busy", 0)
        self.assertNotEqual(bare(SCHEMA, rows, OF_TOWN), bare(SCHEMA, others, OF_TOWN))
        self.assertEqual([data["town"][index][0] for data in (rows, others)], [rows["town"][index][0]] * 2)

    def test_two_lacking_flags_and_three_looks(self):
        schema = Schema({name: ((("i", "k"), ("j", "k"), ("l", "k")), ("f", "g", "h")) for name in ("a", "b", "c", "d")})
        asks = [
            ("has", "i", "b", "j", ("flag", "f")), ("has", "j", "c", "i", ("flag", "g")), ("has", "l", "a", "l", ("flag", "h")),
        ]
        book = [("a", exactly("f", asks[0])), ("b", exactly("f", asks[1])), ("c", exactly("g", asks[2]))]
        for lacking in ([("a", "f"), ("b", "f"), ("c", "g")], [("a", "f"), ("a", "g"), ("b", "f"), ("d", "f"), ("d", "h")]):
            for place in lacking:
                self.assertLess(self.check(schema, book[:1], lacking, *place), 200)
                self.assertLess(self.check(schema, book[1:], lacking, *place), 200)

    def test_data_are_small(self):
        random = Random(36)
        needed = {}
        for _ in range(150):
            tables = ("a", "b", "c")[:random.randint(1, 3)]
            schema = Schema({name: ((("i", "k"), ("j", "k"), ("l", "k")), ("f", "g", "h")) for name in tables})
            places = random.sample(schema.flag_places, random.randint(1, 3))
            book = [(table, exactly(flag, some_condition(random, schema, table, 5))) for table, flag in places]
            if 2 <= len(looks(schema, book)) <= 3 and len({table for table, _ in places}) == len(places):
                for place in places:
                    needed[levels(schema, book, places)[place]] = True
                    self.assertLess(self.check(schema, book, places, *place), 300)
        self.assertTrue({None, 0, 1, 2} <= set(needed))

    def test_at_random(self):
        random = Random(30)
        needed = {}
        for turn in range(400):
            schema = some_schema(random)
            if schema.flag_places:
                book, lacking = some_telling_book(random, schema) if turn % 4 else (some_book(random, schema), schema.flag_places)
                for place in lacking:
                    needed[levels(schema, book, lacking)[place]] = True
                    self.assertLess(self.check(schema, book, lacking, *place), 300)
        self.assertTrue({None, 0, 1, 2} <= set(needed))


class AllCallsTest(unittest.TestCase):
    def test_errors_for_any_objects(self):
        for call, more in CALLS:
            for thing in objects():
                with self.subTest(f"{call.__name__}: {repr(thing)[:60]}"):
                    nothing = [thing] * len(more)
                    if not same(thing, []):
                        self.assertRaises(InvalidBook, call, SCHEMA, thing, OF_TOWN, "town", "busy", *more)
                        self.assertRaises(InvalidBook, call, SCHEMA, thing, thing, thing, thing, *nothing)
                    self.assertRaises(InvalidBook, call, SCHEMA, [thing], OF_TOWN, "town", "busy", *more)
                    if not is_lacking(SCHEMA, thing):
                        self.assertRaises(InvalidLacking, call, SCHEMA, BOOK, thing, "town", "busy", *more)
                        self.assertRaises(InvalidLacking, call, SCHEMA, BOOK, thing, thing, thing, *nothing)
                    self.assertRaises(UnknownTable, call, SCHEMA, BOOK, OF_TOWN, thing, "busy", *more)
                    self.assertRaises(UnknownTable, call, SCHEMA, BOOK, OF_TOWN, thing, thing, *nothing)
                    self.assertRaises(UnknownFlag, call, SCHEMA, BOOK, OF_TOWN, "town", thing, *more)
                    self.assertRaises(UnknownFlag, call, SCHEMA, BOOK, OF_TOWN, "town", thing, *nothing)

    def test_wrong_arguments(self):
        for call, more in CALLS:
            self.assertRaises(InvalidBook, call, SCHEMA, BOOK * 7, OF_TOWN, "town", "busy", *more)
            self.assertRaises(InvalidBook, call, SCHEMA, tuple(BOOK), OF_TOWN, "town", "busy", *more)
            for lacking in (OF_TOWN * 2, tuple(OF_TOWN), [["town", "busy"]], [("town", "id")], [("town", "open")]):
                self.assertRaises(InvalidLacking, call, SCHEMA, BOOK, lacking, "town", "busy", *more)
            for table in ("sea", "busy", ("town", "busy")):
                self.assertRaises(UnknownTable, call, SCHEMA, BOOK, OF_TOWN, table, "busy", *more)
            # Flags that are kept, and flags of another table.
            others = ("shop", "open"), ("shop", "busy"), ("town", "open"), ("land", "busy"), ("town", "id")
            for table, flag in (("town", "old"), *others):
                self.assertRaises(UnknownFlag, call, SCHEMA, BOOK, OF_TOWN, table, flag, *more)

    def test_invalid_number(self):
        for call in (data_behind, data_near):
            for thing in objects() + [-1, True, False, None, "0", [0], (0,)]:
                with self.subTest(repr(thing)[:60]):
                    if not isinstance(thing, int) or isinstance(thing, bool) or thing < 0:
                        self.assertRaises(InvalidNumber, call, SCHEMA, BOOK, OF_TOWN, "town", "busy", thing)
                        self.assertRaises(InvalidNumber, call, SCHEMA, [("town", NO)], OF_TOWN, "town", "busy", thing)
                        self.assertRaises(InvalidNumber, call, SCHEMA, [], OF_TOWN, "town", "busy", thing)

    def test_first_error(self):
        for call, more in CALLS:
            nothing = [None] * len(more)
            self.assertRaises(InvalidBook, call, SCHEMA, None, None, None, None, *nothing)
            self.assertRaises(InvalidLacking, call, SCHEMA, BOOK, None, None, None, *nothing)
            self.assertRaises(UnknownTable, call, SCHEMA, BOOK, OF_TOWN, None, None, *nothing)
            self.assertRaises(UnknownFlag, call, SCHEMA, BOOK, OF_TOWN, "town", None, *nothing)

    def test_by_name_new_and_arguments_kept(self):
        book, lacking = deepcopy(BOOK), list(ALL)
        apart = data_apart(flag="busy", table="town", lacking=lacking, book=book, schema=SCHEMA)
        behind = data_behind(number=1, flag="busy", table="town", lacking=lacking, book=book, schema=SCHEMA)
        near = data_near(number=1, flag="busy", table="town", lacking=lacking, book=book, schema=SCHEMA)
        lone = data_near(number=0, flag="busy", table="town", lacking=OF_TOWN, book=book, schema=SCHEMA)
        data = list(apart[:2]) + list(behind[:1]) + list(near[:2]) + list(lone[:2])
        lists = [rows[table] for rows in data for table in rows]
        self.assertEqual(len({id(part) for part in data + lists}), 7 * 4)
        again = deepcopy([apart, behind, near])
        for part in lists:
            part.clear()
        self.assertEqual([
            data_apart(SCHEMA, book, lacking, "town", "busy"), data_behind(SCHEMA, book, lacking, "town", "busy", 1),
            data_near(SCHEMA, book, lacking, "town", "busy", 1),
        ], again)
        for call, more in CALLS:
            self.assertRaises(UnknownFlag, call, SCHEMA, book, lacking, "town", "old", *more)
        self.assertRaises(InvalidNumber, data_near, SCHEMA, book, lacking, "town", "busy", -1)
        self.assertTrue(same([book, lacking], [BOOK, ALL]))


if __name__ == "__main__":
    unittest.main()
