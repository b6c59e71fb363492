"""Lacking flags: points [2], [7] and [20]."""

import unittest
from copy import deepcopy
from itertools import combinations, permutations

from tests.objects import objects, same
from toldbyrest.errors import InvalidBook, InvalidLacking, InvalidRows
from toldbyrest.lacking import are_bare, bare, is_filling, is_lacking
from toldbyrest.schemas import Schema

SCHEMA = Schema({
    "town": ((("id", "town"), ("of", "town")), ("old", "busy")),
    "shop": ((("at", "town"),), ("open",)),
    "land": ((("id", "land"),), ()),
})
PLACES = [("shop", "open"), ("town", "busy"), ("town", "old")]
OF_TOWN = [("town", "busy")]
ROWS = {
    "town": [((1, 2), (True, False)), ((2, 1), (False, True))],
    "shop": [((1,), (False,)), ((1,), (False,))],
    "land": [((1,), ())],
}
BARE = {"town": [((1, 2), (True, None)), ((2, 1), (False, None))], "shop": ROWS["shop"], "land": ROWS["land"]}
EMPTY = {"town": [], "shop": [], "land": []}
YES = ("yes",)
OLD = ("flag", "old")
BUSY = ("flag", "busy")
# Just one filling of BARE keeps it: ROWS.
BOOK = [("town", ("or", ("and", OLD, ("not", BUSY)), ("and", ("not", OLD), BUSY)))]
MANY = 3000

WRONG_LACKING = [
    (), tuple(PLACES), {}, dict(PLACES), "", "town", None, True, 0, ("town", "old"), [("town", "open")], [("town", "id")],
    [("town", "land")], [("sea", "old")], [("land", "old")], [("old", "town")], [("town",)], [("town", "old", "old")],
    [["town", "old"]], ["town", "old"], ["town.old"], [()], [[]], [None], [True], [0], [("town", None)], [(None, "old")],
    [("town", ("old",))], [("town", ["old"])], [{"town": "old"}], [PLACES], [("Town", "old")], [("town", "old ")],
    [("town", "old"), ("town", "old")], PLACES + PLACES[:1], [PLACES[0], PLACES[1], PLACES[0]], PLACES * 2,
    PLACES + [None], [None] + PLACES,
]

# What is no bare rows of the schema where busy is lacking.
WRONG_BARE = [
    {**BARE, "town": [row]} for row in [
        ((1, 2), (True, False)), ((1, 2), (True, True)), ((1, 2), (None, None)), ((1, 2), (None, False)), ((1, 2), (1, None)),
        ((1, 2), (0, None)), ((1, 2), (True, 0)), ((1, 2), (True, "")), ((1, 2), (True, ())), ((1, 2), (True,)),
        ((1, 2), (None,)), ((1, 2), ()), ((1, 2), (True, None, None)), ((1, 2), [True, None]), ((1, 2), None),
        ((1,), (True, None)), ((1, 2, 3), (True, None)), ((True, 2), (True, None)), ((1, None), (True, None)),
        ((-1, 2), (True, None)), ([1, 2], (True, None)), [(1, 2), (True, None)], ((1, 2),), ((1, 2), (True, None), ()), (), None,
    ]
] + [
    {**BARE, "shop": [((1,), (None,))]}, {**BARE, "land": [((1,), (None,))]}, {**BARE, "town": tuple(BARE["town"])},
    {**BARE, "town": None}, {**BARE, "sea": []}, {"town": [], "shop": []}, {}, [], None, (), tuple(BARE.items()),
]


class IsLackingTest(unittest.TestCase):
    def test_lacking(self):
        for many in range(4):
            for chosen in permutations(PLACES, many):
                with self.subTest(chosen):
                    self.assertIs(is_lacking(SCHEMA, list(chosen)), True)
                    self.assertIs(is_lacking(SCHEMA, chosen), False)

    def test_no_lacking(self):
        for thing in WRONG_LACKING:
            with self.subTest(thing):
                self.assertIs(is_lacking(SCHEMA, thing), False)

    def test_a_schema_without_flags(self):
        schema = Schema({"land": ((("id", "land"),), ())})
        self.assertIs(is_lacking(schema, []), True)
        self.assertIs(is_lacking(schema, [("land", "id")]), False)

    def test_any_thing(self):
        for thing in objects():
            with self.subTest(repr(thing)[:60]):
                self.assertIs(is_lacking(SCHEMA, thing), same(thing, []) or thing == [("town", "old")])
                self.assertIs(is_lacking(SCHEMA, [thing]), False)
                self.assertIs(is_lacking(SCHEMA, [("town", thing)]), False)
                self.assertIs(is_lacking(SCHEMA, [(thing, "old")]), False)

    def test_by_name_and_argument_kept(self):
        lacking = list(PLACES)
        self.assertIs(is_lacking(thing=lacking, schema=SCHEMA), True)
        self.assertEqual(lacking, PLACES)


class BareTest(unittest.TestCase):
    def test_none_in_the_place_of_each_lacking_flag(self):
        self.assertTrue(same(bare(SCHEMA, ROWS, OF_TOWN), {key: BARE[key] for key in sorted(BARE)}))
        old = bare(SCHEMA, ROWS, [("town", "old")])
        self.assertEqual(old["town"], [((1, 2), (None, False)), ((2, 1), (None, True))])
        self.assertEqual([old["shop"], old["land"]], [ROWS["shop"], ROWS["land"]])

    def test_no_lacking_flags_and_all_of_them(self):
        self.assertTrue(same(bare(SCHEMA, ROWS, []), {key: ROWS[key] for key in sorted(ROWS)}))
        for chosen in permutations(PLACES):
            found = bare(SCHEMA, ROWS, list(chosen))
            self.assertEqual(found["town"], [((1, 2), (None, None)), ((2, 1), (None, None))])
            self.assertEqual(found["shop"], [((1,), (None,)), ((1,), (None,))])
            self.assertEqual(found["land"], ROWS["land"])

    def test_the_flag_of_another_table_is_kept(self):
        schema = Schema({"a": ((("i", "k"),), ("f", "g")), "b": ((("i", "k"),), ("g", "f"))})
        rows = {"a": [((1,), (True, False))], "b": [((1,), (True, False))]}
        self.assertEqual(bare(schema, rows, [("a", "f")]), {"a": [((1,), (None, False))], "b": rows["b"]})
        self.assertEqual(bare(schema, rows, [("b", "f")]), {"a": rows["a"], "b": [((1,), (True, None))]})

    def test_no_rows_and_many_rows(self):
        self.assertEqual(bare(SCHEMA, EMPTY, PLACES), EMPTY)
        rows = {**EMPTY, "town": [((at, 10 ** 39), (True, False)) for at in range(MANY)]}
        self.assertEqual(bare(SCHEMA, rows, OF_TOWN)["town"], [((at, 10 ** 39), (True, None)) for at in range(MANY)])

    def test_errors_for_any_objects(self):
        for thing in objects():
            with self.subTest(repr(thing)[:60]):
                self.assertRaises(InvalidRows, bare, SCHEMA, thing, OF_TOWN)
                self.assertRaises(InvalidRows, bare, SCHEMA, thing, thing)
                self.assertRaises(InvalidRows, bare, SCHEMA, {**ROWS, "land": [thing]}, OF_TOWN)
                if not is_lacking(SCHEMA, thing):
                    self.assertRaises(InvalidLacking, bare, SCHEMA, ROWS, thing)
        for thing in WRONG_LACKING:
            self.assertRaises(InvalidLacking, bare, SCHEMA, ROWS, thing)
            self.assertRaises(InvalidLacking, bare, SCHEMA, EMPTY, thing)
        self.assertRaises(InvalidRows, bare, SCHEMA, BARE, OF_TOWN)

    def test_first_error(self):
        self.assertRaises(InvalidRows, bare, SCHEMA, None, None)
        self.assertRaises(InvalidRows, bare, SCHEMA, BARE, PLACES * 2)

    def test_by_name_new_and_arguments_kept(self):
        rows, lacking = deepcopy(ROWS), list(OF_TOWN)
        found = bare(lacking=lacking, rows=rows, schema=SCHEMA)
        self.assertEqual(list(found), ["land", "shop", "town"])
        for table in found:
            found[table].clear()
        self.assertEqual(bare(SCHEMA, rows, lacking), BARE)
        whole = bare(SCHEMA, rows, [])
        for table in whole:
            whole[table].append(None)
        empty = bare(SCHEMA, EMPTY, [])
        empty["town"].append(1)
        self.assertEqual([empty["shop"], empty["land"], EMPTY["town"]], [[], [], []])
        self.assertRaises(InvalidLacking, bare, SCHEMA, rows, [None])
        self.assertTrue(same([rows, lacking], [ROWS, OF_TOWN]))


class AreBareTest(unittest.TestCase):
    def test_bare_rows(self):
        for many in range(4):
            for chosen in combinations(PLACES, many):
                for other in range(4):
                    for others in combinations(PLACES, other):
                        found = are_bare(SCHEMA, list(chosen), bare(SCHEMA, ROWS, list(others)))
                        self.assertIs(found, chosen == others)

    def test_rows_of_tables_without_lacking_flags(self):
        self.assertIs(are_bare(SCHEMA, OF_TOWN, {**ROWS, "town": []}), True)
        self.assertIs(are_bare(SCHEMA, OF_TOWN, EMPTY), True)
        self.assertIs(are_bare(SCHEMA, OF_TOWN, dict(reversed(BARE.items()))), True)
        self.assertIs(are_bare(SCHEMA, [], ROWS), True)
        self.assertIs(are_bare(SCHEMA, PLACES, EMPTY), True)

    def test_no_bare_rows(self):
        self.assertIs(are_bare(SCHEMA, OF_TOWN, BARE), True)
        for thing in WRONG_BARE:
            with self.subTest(thing):
                self.assertIs(are_bare(SCHEMA, OF_TOWN, thing), False)

    def test_any_object(self):
        for thing in objects():
            with self.subTest(repr(thing)[:60]):
                self.assertIs(are_bare(SCHEMA, OF_TOWN, thing), False)
                self.assertIs(are_bare(SCHEMA, [], thing), False)
                self.assertIs(are_bare(SCHEMA, OF_TOWN, {**BARE, "town": [thing]}), False)
                self.assertIs(are_bare(SCHEMA, OF_TOWN, {**BARE, "town": [((1, 2), (True, thing))]}), thing is None)
                kept = {**BARE, "town": [((1, 2), (thing, None))]}
                self.assertIs(are_bare(SCHEMA, OF_TOWN, kept), isinstance(thing, bool))
                if not is_lacking(SCHEMA, thing):
                    self.assertRaises(InvalidLacking, are_bare, SCHEMA, thing, BARE)
                    self.assertRaises(InvalidLacking, are_bare, SCHEMA, thing, thing)

    def test_invalid_lacking(self):
        for thing in WRONG_LACKING:
            self.assertRaises(InvalidLacking, are_bare, SCHEMA, thing, BARE)
            self.assertRaises(InvalidLacking, are_bare, SCHEMA, thing, None)

    def test_by_name_and_arguments_kept(self):
        rows, lacking = deepcopy(BARE), list(OF_TOWN)
        self.assertIs(are_bare(thing=rows, lacking=lacking, schema=SCHEMA), True)
        self.assertRaises(InvalidLacking, are_bare, SCHEMA, OF_TOWN * 2, rows)
        self.assertTrue(same([rows, lacking], [BARE, OF_TOWN]))


class IsFillingTest(unittest.TestCase):
    def filled(self, *flags):
        """Return ROWS with other flags in the place of the lacking ones."""
        rows = [(values, (old, busy)) for (values, (old, _)), busy in zip(BARE["town"], flags)]
        return {**ROWS, "town": rows}

    def test_fillings_keep_the_book(self):
        for one in (False, True):
            for two in (False, True):
                rows = self.filled(one, two)
                self.assertIs(is_filling(SCHEMA, BOOK, OF_TOWN, BARE, rows), rows == ROWS)
                self.assertIs(is_filling(SCHEMA, [], OF_TOWN, BARE, rows), True)
                never = [("land", ("not", YES))]
                self.assertIs(is_filling(SCHEMA, never, OF_TOWN, BARE, rows), False)

    def test_no_lacking_flags(self):
        self.assertIs(is_filling(SCHEMA, BOOK, [], ROWS, ROWS), True)
        self.assertIs(is_filling(SCHEMA, [("shop", ("flag", "open"))], [], ROWS, ROWS), False)
        self.assertIs(is_filling(SCHEMA, [], [], ROWS, self.filled(True, True)), False)

    def test_no_rows(self):
        self.assertIs(is_filling(SCHEMA, [("land", ("not", YES))], PLACES, EMPTY, EMPTY), True)
        self.assertIs(is_filling(SCHEMA, [], PLACES, EMPTY, {**EMPTY, "land": ROWS["land"]}), False)

    def test_rows_that_become_other_bare_rows(self):
        others = [
            {**ROWS, "town": ROWS["town"][::-1]}, {**ROWS, "town": ROWS["town"][:1]}, {**ROWS, "town": ROWS["town"] * 2},
            {**ROWS, "town": [((1, 2), (False, False)), ROWS["town"][1]]}, {**ROWS, "shop": ROWS["shop"][:1]},
            {**ROWS, "town": [((1, 3), (True, False)), ROWS["town"][1]]}, {**ROWS, "shop": [((1,), (True,)), ((1,), (False,))]},
            {**ROWS, "land": []}, {**ROWS, "land": [((2,), ())]}, EMPTY,
        ]
        for rows in others:
            with self.subTest(rows):
                self.assertIs(is_filling(SCHEMA, [], OF_TOWN, BARE, rows), False)
                self.assertIs(is_filling(SCHEMA, [], OF_TOWN, BARE, ROWS), True)

    def test_order_of_keys_means_nothing(self):
        rows = dict(reversed(ROWS.items()))
        self.assertIs(is_filling(SCHEMA, BOOK, OF_TOWN, dict(reversed(BARE.items())), rows), True)
        self.assertIs(is_filling(SCHEMA, BOOK, OF_TOWN, BARE, rows), True)

    def test_many_rows(self):
        rows = {**EMPTY, "town": [((at, at), (at % 2 == 0, at % 2 == 1)) for at in range(MANY)]}
        self.assertIs(is_filling(SCHEMA, BOOK, PLACES, bare(SCHEMA, rows, PLACES), rows), True)
        other = {**rows, "town": rows["town"][:-1] + [((MANY - 1, MANY - 1), (True, True))]}
        self.assertIs(is_filling(SCHEMA, BOOK, PLACES, bare(SCHEMA, rows, PLACES), other), False)

    def test_any_thing(self):
        for thing in objects() + WRONG_BARE + [BARE]:
            with self.subTest(repr(thing)[:60]):
                self.assertIs(is_filling(SCHEMA, BOOK, OF_TOWN, BARE, thing), False)
                self.assertIs(is_filling(SCHEMA, [], [], ROWS, {**ROWS, "land": [thing]}), False)
        numbers = {**ROWS, "town": [((1, 2), (1, 0)), ((2, 1), (0, 1))]}
        self.assertIs(is_filling(SCHEMA, [], OF_TOWN, BARE, numbers), False)
        bools = {**ROWS, "land": [((True,), ())]}
        self.assertIs(is_filling(SCHEMA, [], OF_TOWN, BARE, bools), False)

    def test_errors_for_any_objects(self):
        for thing in objects():
            with self.subTest(repr(thing)[:60]):
                if not same(thing, []):
                    self.assertRaises(InvalidBook, is_filling, SCHEMA, thing, OF_TOWN, BARE, ROWS)
                    self.assertRaises(InvalidBook, is_filling, SCHEMA, thing, thing, thing, thing)
                self.assertRaises(InvalidBook, is_filling, SCHEMA, [thing], OF_TOWN, BARE, ROWS)
                if not is_lacking(SCHEMA, thing):
                    self.assertRaises(InvalidLacking, is_filling, SCHEMA, BOOK, thing, BARE, ROWS)
                    self.assertRaises(InvalidLacking, is_filling, SCHEMA, BOOK, thing, thing, thing)
                self.assertRaises(InvalidRows, is_filling, SCHEMA, BOOK, OF_TOWN, thing, ROWS)
                self.assertRaises(InvalidRows, is_filling, SCHEMA, BOOK, OF_TOWN, thing, thing)
        for thing in WRONG_LACKING:
            self.assertRaises(InvalidLacking, is_filling, SCHEMA, BOOK, thing, BARE, ROWS)
        for thing in WRONG_BARE:
            self.assertRaises(InvalidRows, is_filling, SCHEMA, BOOK, OF_TOWN, thing, ROWS)
        self.assertRaises(InvalidRows, is_filling, SCHEMA, BOOK, OF_TOWN, ROWS, ROWS)
        self.assertRaises(InvalidRows, is_filling, SCHEMA, BOOK, [], BARE, ROWS)
        self.assertRaises(InvalidRows, is_filling, SCHEMA, BOOK, PLACES, BARE, ROWS)
        self.assertRaises(InvalidBook, is_filling, SCHEMA, BOOK * 7, OF_TOWN, BARE, ROWS)

    def test_first_error(self):
        self.assertRaises(InvalidBook, is_filling, SCHEMA, None, None, None, None)
        self.assertRaises(InvalidLacking, is_filling, SCHEMA, BOOK, None, None, None)
        self.assertRaises(InvalidRows, is_filling, SCHEMA, BOOK, OF_TOWN, None, None)
        self.assertRaises(InvalidLacking, is_filling, SCHEMA, BOOK, OF_TOWN * 2, ROWS, ROWS)

    def test_by_name_and_arguments_kept(self):
        book, lacking, rows, thing = deepcopy(BOOK), list(OF_TOWN), deepcopy(BARE), deepcopy(ROWS)
        self.assertIs(is_filling(thing=thing, rows=rows, lacking=lacking, book=book, schema=SCHEMA), True)
        self.assertRaises(InvalidRows, is_filling, SCHEMA, book, lacking, thing, rows)
        self.assertTrue(same([book, lacking, rows, thing], [BOOK, OF_TOWN, BARE, ROWS]))


if __name__ == "__main__":
    unittest.main()
