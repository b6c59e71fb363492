"""Fillings: points [2], [7] and [21]."""

import unittest
from copy import deepcopy
from itertools import product
from random import Random

from tests.objects import doubled, nested, objects, plainly_meets, same, some_condition, some_rows
from toldbyrest.errors import InvalidBook, InvalidLacking, InvalidRows
from toldbyrest.fillings import fillings, how_many, sure
from toldbyrest.lacking import bare, is_filling, is_lacking
from toldbyrest.schemas import Schema

SCHEMA = Schema({
    "town": ((("id", "town"), ("of", "town")), ("old", "busy")),
    "shop": ((("at", "town"),), ("open",)),
    "land": ((("id", "land"),), ()),
})
PLACES = [("shop", "open"), ("town", "busy"), ("town", "old")]
OF_TOWN = [("town", "busy")]
BARE = {
    "town": [((1, 2), (True, None)), ((2, 1), (False, None))],
    "shop": [((1,), (False,)), ((2,), (True,))],
    "land": [((1,), ())],
}
EMPTY = {"town": [], "shop": [], "land": []}
YES = ("yes",)
NO = ("not", YES)
OLD = ("flag", "old")
BUSY = ("flag", "busy")
OPEN = ("flag", "open")
BOOK = [("town", ("or", OLD, BUSY))]
CALLS = (fillings, how_many, sure)
MANY = 3000


def plain_fillings(schema, book, rows):
    """Return all fillings in ascending order, by trying all flags one behind the other."""
    spots = [(table, index) for table in sorted(rows) for index in range(len(rows[table]))]
    choices = [
        [(False, True) if flag is None else (flag,) for flag in rows[table][index][1]] for table, index in spots
    ]
    found = []
    for chosen in product(*[list(product(*choice)) for choice in choices]):
        filled = {table: [] for table in sorted(rows)}
        for (table, index), flags in zip(spots, chosen):
            filled[table].append((rows[table][index][0], flags))
        if all(
            plainly_meets(schema, filled, table, index, condition)
            for table, condition in book
            for index in range(len(filled[table]))
        ):
            found.append(filled)
    return found


def in_common(rows, found):
    """Return bare rows with what all of some fillings have, or None if there is none of these."""
    if not found:
        return None
    result = {}
    for table in sorted(rows):
        result[table] = []
        for index, (values, flags) in enumerate(rows[table]):
            seen = [{filled[table][index][1][at] for filled in found} for at in range(len(flags))]
            result[table].append((values, tuple(flag.pop() if len(flag) == 1 else None for flag in seen)))
    return result


class FillingsTest(unittest.TestCase):
    def check(self, book, lacking, rows, expected, schema=SCHEMA):
        """Check what all three calls return, with the fillings that are expected."""
        self.assertTrue(same(fillings(schema, book, lacking, rows), expected), (book, lacking, rows))
        self.assertTrue(same(how_many(schema, book, lacking, rows), len(expected)))
        self.assertTrue(same(sure(schema, book, lacking, rows), in_common(rows, expected)), (book, lacking, rows))

    def filled(self, rows, table, *choices):
        """Return the rows with other rows of one table, for each choice of the flags of these."""
        keys = sorted(rows)
        return [
            {key: [(values, own) for (values, _), own in zip(rows[key], flags)] if key == table else rows[key] for key in keys}
            for flags in choices
        ]

    def test_ascending_order(self):
        self.check([], OF_TOWN, BARE, self.filled(
            BARE, "town", ((True, False), (False, False)), ((True, False), (False, True)),
            ((True, True), (False, False)), ((True, True), (False, True)),
        ))
        self.check(BOOK, OF_TOWN, BARE, self.filled(
            BARE, "town", ((True, False), (False, True)), ((True, True), (False, True)),
        ))

    def test_order_of_tables_rows_and_flags(self):
        rows = bare(SCHEMA, {**EMPTY, "shop": [((1,), (True,))], "town": [((1, 1), (True, True))]}, PLACES)
        expected = [
            {"land": [], "shop": [((1,), (one,))], "town": [((1, 1), (two, three))]}
            for one, two, three in product((False, True), repeat=3)
        ]
        self.check([], PLACES, rows, expected)
        self.check([], PLACES[::-1], dict(reversed(rows.items())), expected)
        self.check([("town", ("or", BUSY, OLD))], PLACES, rows, [expected[at] for at in (1, 2, 3, 5, 6, 7)])
        self.check([("town", OLD)], PLACES, rows, [expected[at] for at in (2, 3, 6, 7)])
        self.check([("town", BUSY)], PLACES, rows, [expected[at] for at in (1, 3, 5, 7)])
        self.check([("shop", OPEN)], PLACES, rows, expected[4:])
        self.check([("shop", ("has", "at", "town", "id", OLD))], PLACES, rows, [expected[at] for at in (2, 3, 6, 7)])

    def test_what_is_sure(self):
        found = sure(SCHEMA, BOOK, OF_TOWN, BARE)
        self.assertTrue(same(found["town"], [((1, 2), (True, None)), ((2, 1), (False, True))]))
        found = sure(SCHEMA, [("town", ("not", BUSY))], OF_TOWN, BARE)
        self.assertTrue(same(found["town"], [((1, 2), (True, False)), ((2, 1), (False, False))]))
        self.assertTrue(same(sure(SCHEMA, [], OF_TOWN, BARE), {key: BARE[key] for key in sorted(BARE)}))

    def test_no_filling(self):
        self.check([("land", NO)], OF_TOWN, BARE, [])
        self.check([("town", BUSY), ("town", ("not", BUSY))], OF_TOWN, BARE, [])
        self.check([("shop", OPEN)], OF_TOWN, BARE, [])
        self.assertIsNone(sure(SCHEMA, [("land", NO)], OF_TOWN, BARE))
        for sizes in (1, 3):
            self.check([("town", NO)], OF_TOWN, {**EMPTY, "town": [((1, 2), (True, None))] * sizes}, [])

    def test_no_lacking_flags(self):
        rows = {"land": BARE["land"], "shop": BARE["shop"], "town": [((1, 2), (True, False)), ((2, 1), (False, True))]}
        self.check(BOOK, [], rows, [rows])
        self.check([("town", OLD)], [], rows, [])
        self.check([], [], rows, [rows])

    def test_rows_without_lacking_flags(self):
        rows = {"land": BARE["land"], "shop": BARE["shop"], "town": []}
        self.check([], OF_TOWN, rows, [rows])
        self.check([("shop", OPEN)], OF_TOWN, rows, [])
        self.check([("shop", ("or", OPEN, ("not", OPEN)))], OF_TOWN, rows, [rows])

    def test_no_rows(self):
        empty = {key: [] for key in sorted(EMPTY)}
        for lacking in ([], OF_TOWN, PLACES):
            self.check([], lacking, EMPTY, [empty])
            self.check([("town", NO), ("shop", NO), ("land", NO)], lacking, EMPTY, [empty])

    def test_all_flags_lacking(self):
        rows = bare(SCHEMA, {**EMPTY, "town": [((1, 1), (True, True))] * 2, "shop": [((1,), (True,))]}, PLACES)
        book = [("town", ("and", OLD, ("not", BUSY))), ("shop", ("has", "at", "town", "id", OLD))]
        town = [((1, 1), (True, False))] * 2
        self.check(book, PLACES, rows, [{"land": [], "shop": [((1,), (one,))], "town": town} for one in (False, True)])

    def test_a_flag_that_no_round_works_out_may_be_sure(self):
        rows = {**EMPTY, "town": [((1, 2), (None, False)), ((2, 1), (None, False)), ((3, 4), (None, False))]}
        book = [("town", ("or", ("not", OLD), ("has", "of", "town", "id", OLD)))]
        self.assertEqual(how_many(SCHEMA, book, [("town", "old")], rows), 2)
        found = sure(SCHEMA, book, [("town", "old")], rows)
        self.assertEqual([flags[0] for _, flags in found["town"]], [None, None, False])

    def test_as_the_document_says_it(self):
        random = Random(21)
        sizes = {}
        for _ in range(400):
            rows = some_rows(random, SCHEMA)
            lacking = random.sample(PLACES, random.randrange(4))
            rows = bare(SCHEMA, rows, lacking)
            while sum(flags.count(None) for table in rows for _, flags in rows[table]) > 7:
                random.choice([rows["town"], rows["shop"]])[:1] = []
            tables = [random.choice(SCHEMA.tables) for _ in range(random.randrange(4))]
            book = [(table, some_condition(random, SCHEMA, table, 5)) for table in tables]
            expected = plain_fillings(SCHEMA, book, rows)
            self.check(book, lacking, rows, expected)
            sizes[min(len(expected), 3)] = True
            for filled in expected[:3]:
                self.assertTrue(is_filling(SCHEMA, book, lacking, rows, filled))
        self.assertEqual(sorted(sizes), [0, 1, 2, 3])

    def test_three_flags_of_a_table(self):
        schema = Schema({"a": ((("i", "k"),), ("f", "g", "h"))})
        rows = {"a": [((1,), (None, True, None)), ((1,), (None, False, None))]}
        book = [("a", ("or", ("flag", "g"), ("has", "i", "a", "i", ("and", ("flag", "f"), ("not", ("flag", "h"))))))]
        lacking = [("a", "h"), ("a", "f")]
        self.check(book, lacking, rows, plain_fillings(schema, book, rows), schema)

    def test_ten_lacking_flags(self):
        rows = {**EMPTY, "town": [((at, at + 1), (None, None)) for at in range(5)]}
        lacking = [("town", "old"), ("town", "busy")]
        self.assertEqual(how_many(SCHEMA, [], lacking, rows), 1024)
        book = [("town", ("or", OLD, BUSY))]
        expected = plain_fillings(SCHEMA, book, rows)
        self.assertEqual(len(expected), 3 ** 5)
        self.check(book, lacking, rows, expected)
        # A flag of a row is that of the next one; what the last one has is free.
        chain = ("has", "of", "town", "id", OLD)
        end = ("not", ("has", "of", "town", "id", YES))
        same_flag = ("or", ("and", OLD, chain), ("and", ("not", OLD), ("not", chain)))
        book = [("town", ("or", end, same_flag)), ("town", ("or", ("and", OLD, BUSY), ("not", ("or", OLD, BUSY))))]
        towns = [[(values, (flag, flag)) for values, _ in rows["town"]] for flag in (False, True)]
        self.check(book, lacking, rows, [{"land": [], "shop": [], "town": town} for town in towns])

    def test_ten_lacking_flags_of_many_rows(self):
        shops = [((at,), (None,)) for at in range(10)]
        rows = {"land": [], "shop": shops, "town": [((at, at % 10), (False, at == 7)) for at in range(MANY - 10)]}
        lacking = [("shop", "open")]
        self.assertEqual(how_many(SCHEMA, [], lacking, rows), 1024)
        found = fillings(SCHEMA, [], lacking, rows)
        self.assertEqual([filled["shop"][9][1][0] for filled in found], [False, True] * 512)
        self.assertEqual(found[5]["town"], rows["town"])
        book = [("town", ("has", "of", "shop", "at", ("or", OPEN, ("has", "at", "town", "id", BUSY))))]
        expected = [shops[at] if at == 7 else ((at,), (True,)) for at in range(10)]
        self.assertEqual(sure(SCHEMA, book, lacking, rows), {**rows, "shop": expected})
        self.assertEqual(how_many(SCHEMA, book, lacking, rows), 2)

    def test_sixteen_levels(self):
        rows = {**EMPTY, "town": [((at, at + 1), (None, False)) for at in range(10)]}
        chain = nested(14, lambda part: ("has", "id", "town", "of", part), OLD)
        book = [("town", doubled(16, "or", OLD)), ("town", ("not", chain))]
        expected = [((at, at + 1), (True, False)) for at in range(10)]
        self.check(book, [("town", "old")], rows, [{"land": [], "shop": [], "town": expected}])

    def test_errors_for_any_objects(self):
        for call in CALLS:
            for thing in objects():
                with self.subTest(f"{call.__name__}: {repr(thing)[:60]}"):
                    if not same(thing, []):
                        self.assertRaises(InvalidBook, call, SCHEMA, thing, OF_TOWN, BARE)
                        self.assertRaises(InvalidBook, call, SCHEMA, thing, thing, thing)
                    self.assertRaises(InvalidBook, call, SCHEMA, [thing], OF_TOWN, BARE)
                    if not is_lacking(SCHEMA, thing):
                        self.assertRaises(InvalidLacking, call, SCHEMA, BOOK, thing, BARE)
                        self.assertRaises(InvalidLacking, call, SCHEMA, BOOK, thing, thing)
                    self.assertRaises(InvalidRows, call, SCHEMA, BOOK, OF_TOWN, thing)
                    self.assertRaises(InvalidRows, call, SCHEMA, BOOK, OF_TOWN, {**BARE, "land": [thing]})
                    if thing is not None:
                        self.assertRaises(
                            InvalidRows, call, SCHEMA, BOOK, OF_TOWN, {**BARE, "town": [((1, 2), (True, thing))]}
                        )

    def test_wrong_arguments(self):
        for call in CALLS:
            self.assertRaises(InvalidBook, call, SCHEMA, BOOK * 7, OF_TOWN, BARE)
            self.assertRaises(InvalidBook, call, SCHEMA, tuple(BOOK), OF_TOWN, BARE)
            self.assertRaises(InvalidBook, call, SCHEMA, [("town", OPEN)], OF_TOWN, BARE)
            self.assertRaises(InvalidLacking, call, SCHEMA, BOOK, OF_TOWN * 2, BARE)
            self.assertRaises(InvalidLacking, call, SCHEMA, BOOK, tuple(OF_TOWN), BARE)
            self.assertRaises(InvalidLacking, call, SCHEMA, BOOK, [("town", "id")], BARE)
            self.assertRaises(InvalidRows, call, SCHEMA, BOOK, [], BARE)
            self.assertRaises(InvalidRows, call, SCHEMA, BOOK, PLACES, BARE)
            self.assertRaises(InvalidRows, call, SCHEMA, BOOK, [("town", "old")], BARE)
            self.assertRaises(InvalidRows, call, SCHEMA, BOOK, OF_TOWN, {**BARE, "town": [((1, 2), (True, False))]})
            self.assertRaises(InvalidRows, call, SCHEMA, BOOK, OF_TOWN, {**BARE, "town": [((1, 2), (None, None))]})
            self.assertRaises(InvalidRows, call, SCHEMA, BOOK, OF_TOWN, {**BARE, "town": [((1, 2), (1, None))]})
            self.assertRaises(InvalidRows, call, SCHEMA, BOOK, OF_TOWN, {**BARE, "town": [((1, True), (True, None))]})
            self.assertRaises(InvalidRows, call, SCHEMA, BOOK, OF_TOWN, {**BARE, "town": [((1, -2), (True, None))]})
            self.assertRaises(InvalidRows, call, SCHEMA, BOOK, OF_TOWN, {**BARE, "town": tuple(BARE["town"])})

    def test_first_error(self):
        for call in CALLS:
            self.assertRaises(InvalidBook, call, SCHEMA, None, None, None)
            self.assertRaises(InvalidLacking, call, SCHEMA, BOOK, None, None)
            self.assertRaises(InvalidLacking, call, SCHEMA, BOOK, OF_TOWN * 2, {})
            self.assertRaises(InvalidRows, call, SCHEMA, BOOK, PLACES, None)

    def test_by_name_new_and_arguments_kept(self):
        book, lacking, rows = deepcopy(BOOK), list(OF_TOWN), deepcopy(BARE)
        for call in CALLS:
            call(rows=rows, lacking=lacking, book=book, schema=SCHEMA)
            self.assertRaises(InvalidRows, call, SCHEMA, book, [], rows)
            self.assertTrue(same([book, lacking, rows], [BOOK, OF_TOWN, BARE]))
        found = fillings(SCHEMA, book, lacking, rows)
        common = sure(SCHEMA, book, lacking, rows)
        whole = {**EMPTY, "shop": [((1,), (True,))]}
        found += fillings(SCHEMA, [], [], whole) + [sure(SCHEMA, [], [], whole), common]
        lists = [filled[table] for filled in found for table in filled]
        self.assertEqual(len({id(part) for part in lists + list(rows.values()) + list(whole.values())}), len(lists) + 6)
        for filled in found:
            self.assertEqual(list(filled), ["land", "shop", "town"])
            for table in filled:
                filled[table].append(None)
        self.assertTrue(same([book, lacking, rows], [BOOK, OF_TOWN, BARE]))
        self.assertEqual(whole, {**EMPTY, "shop": [((1,), (True,))]})
        self.assertEqual(len(fillings(SCHEMA, book, lacking, rows)[0]["town"]), 2)


if __name__ == "__main__":
    unittest.main()
