"""Reasons: points [2], [12] and [26]."""

import unittest
from copy import deepcopy
from random import Random

from tests.objects import Plain, objects, same, some_book, some_rows, some_schema
from toldbyrest.candidates import candidates, last_round
from toldbyrest.errors import InvalidBook, InvalidKind, InvalidLacking, InvalidRows, UnknownRow, UnknownTable
from toldbyrest.lacking import bare, is_lacking
from toldbyrest.reasons import is_reason, reason
from toldbyrest.schemas import Schema

SCHEMA = Schema({
    "town": ((("id", "town"), ("of", "town")), ("old", "busy")),
    "shop": ((("at", "town"),), ("open",)),
    "land": ((("id", "land"),), ()),
})
OF_TOWN = [("town", "busy")]
YES = ("yes",)
OLD = ("flag", "old")
BUSY = ("flag", "busy")
OPEN = ("flag", "open")
ABOVE = ("has", "of", "town", "id", BUSY)
# A town is busy exactly if the next one is.
BOOK = [("town", ("or", ("and", BUSY, ABOVE), ("and", ("not", BUSY), ("not", ABOVE))))]
BARE = {
    "town": [((0, 1), (True, None)), ((1, 2), (False, None)), ((2, 3), (False, None))], "shop": [((8,), (True,))], "land": [],
}
# All that is struck, each in its round, from the last town to the first one.
STRUCK = {("town", 2 - at, ("town", (at == 2, True), (True,))): at + 1 for at in range(3)}
LAST, MIDDLE, FIRST = STRUCK
QUIET = ("town", (True, False), (False,))
WRONG_NUMBERS = (0, -1, True, False, None, "1", (), (1,), [1], {}, -10 ** 39)
WRONG_KEYS = [
    LAST[:2], LAST + (1,), LAST[1:], (2,) + LAST[2:], ("shop",) + LAST[1:], ("sea",) + LAST[1:], ("Town",) + LAST[1:],
    (None,) + LAST[1:], (("town",),) + LAST[1:], ("land", 0, ("land", (), ())), ("land", 0, LAST[2]),
    ("town", 3, LAST[2]), ("town", -1, LAST[2]), ("town", -3, LAST[2]), ("town", True, MIDDLE[2]), ("town", False, FIRST[2]),
    ("town", None, LAST[2]), ("town", "2", LAST[2]), ("town", (2,), LAST[2]),
    # No candidate of the row: another kept flag, another table, an answer that the rule forbids.
    ("town", 2, FIRST[2]), ("town", 0, LAST[2]), ("town", 2, ("shop", (True,), ())),
    ("town", 2, ("town", (False, True), (False,))), ("town", 2, ("town", (False, True))),
    ("town", 2, ("town", (False, True), (True,), ())), ("town", 2, (False, True)),
    ("town", 2, ("town", (0, 1), (1,))), ("town", 2, ("town", (False, True), (1,))), ("town", 2, ("town", (None, True), (True,))),
    ("town", 2, ("town", (False,), (True,))), ("town", 2, ("town", (False, True), ())), ("town", 2, None), ("town", 2, "town"),
    ("town", 2, ()), "town", "abc", "", 0, 1, (), ("town",), LAST[2], (LAST,), ("town", "town", "town"),
    ("shop", 0, ("shop", (False,), ())),
]
CALLS = [(is_reason, [STRUCK]), (reason, ["town", 2, LAST[2]])]


def plainly_is_reason(plain, rows, thing):
    """Read word by word whether the parts of a thing, candidates of rows with numbers from 1 on, are a reason."""
    first = plain.first_candidates(rows)
    for part, number in thing.items():
        there = {row: [kind for kind in first[row] if thing.get((*row, kind), number) >= number] for row in first}
        if not plain.is_candidate_struck(rows, there, *part):
            return False
    return True


def told(book, lacking, rows, thing, schema=SCHEMA):
    return is_reason(schema, book, lacking, rows, thing)


class IsReasonTest(unittest.TestCase):
    def check(self, thing, expected):
        self.assertIs(told(BOOK, OF_TOWN, BARE, thing), expected)
        self.assertIs(plainly_is_reason(Plain(SCHEMA, BOOK), BARE, thing), expected)

    def test_each_part_goes_by_lesser_numbers(self):
        self.check(STRUCK, True)
        self.check({LAST: 1}, True)
        self.check({LAST: 1, MIDDLE: 2}, True)
        self.check({LAST: 7, MIDDLE: 10 ** 39, FIRST: 10 ** 39 + 1}, True)
        self.check({FIRST: 9, MIDDLE: 8, LAST: 2}, True)
        self.check({MIDDLE: 1}, False)
        self.check({MIDDLE: 10 ** 39}, False)
        self.check({LAST: 1, MIDDLE: 1}, False)
        self.check({LAST: 2, MIDDLE: 1}, False)
        self.check({LAST: 1, FIRST: 2}, False)
        self.check({LAST: 1, MIDDLE: 3, FIRST: 3}, False)
        self.check({LAST: 1, MIDDLE: 4, FIRST: 3}, False)

    def test_the_empty_reason(self):
        self.check({}, True)
        self.assertIs(told([], [], {"town": [], "shop": [], "land": []}, {}), True)

    def test_what_is_never_struck(self):
        for number in (1, 2, 10 ** 39):
            self.check({("town", 0, QUIET): number}, False)
            self.check({**STRUCK, ("town", 0, QUIET): number}, False)
            self.check({**STRUCK, ("shop", 0, ("shop", (True,), ())): number}, False)

    def test_numbers_are_integers_from_1_on(self):
        for number in WRONG_NUMBERS:
            with self.subTest(number):
                self.assertIs(told(BOOK, OF_TOWN, BARE, {LAST: number}), False)
                self.assertIs(told(BOOK, OF_TOWN, BARE, {**STRUCK, FIRST: number}), False)

    def test_keys_are_rows_and_candidates_of_theirs(self):
        for key in WRONG_KEYS:
            with self.subTest(key):
                self.assertIs(told(BOOK, OF_TOWN, BARE, {key: 1}), False)
                self.assertIs(told(BOOK, OF_TOWN, BARE, {key: 9, LAST: 1, MIDDLE: 2}), False)

    def test_row_kinds_that_are_struck_in_all_data_are_no_candidates(self):
        book = [("shop", ("not", OPEN)), ("town", ("or", YES, ("has", "id", "shop", "at", OPEN)))]
        rows = {"town": [((1, 2), (True, None))], "shop": [((2,), (False,))], "land": []}
        for busy in (False, True):
            self.assertIs(told(book, OF_TOWN, rows, {("town", 0, ("town", (True, busy), (True,))): 1}), False)
            self.assertRaises(
                InvalidKind, reason, SCHEMA, book, OF_TOWN, rows, "town", 0, ("town", (True, busy), (True,))
            )

    def test_any_thing(self):
        for thing in objects() + [list(STRUCK.items()), tuple(STRUCK.items()), [STRUCK], (STRUCK,), list(STRUCK), LAST]:
            with self.subTest(repr(thing)[:60]):
                self.assertIs(told(BOOK, OF_TOWN, BARE, thing), same(thing, {}))
                expected = isinstance(thing, int) and thing > 0 and thing is not True
                self.assertIs(told(BOOK, OF_TOWN, BARE, {LAST: thing}), expected)

    def test_as_the_document_says_it(self):
        random = Random(26)
        seen = {True: 0, False: 0}
        for _ in range(150):
            schema = some_schema(random)
            book = some_book(random, schema)
            plain = Plain(schema, book)
            lacking = [place for place in schema.flag_places if random.random() < 0.5]
            rows = bare(schema, some_rows(random, schema), lacking)
            stages = plain.stages_of_candidates(rows)
            struck = {
                (*row, kind): number
                for number in range(1, len(stages)) for row in stages[0]
                for kind in stages[number - 1][row] if kind not in stages[number][row]
            }
            for row, kinds in stages[0].items():
                for kind in kinds:
                    self.check_told(schema, book, lacking, rows, (*row, kind), struck)
            for _ in range(8):
                thing = {
                    part: max(1, number + random.choice((-1, 0, 0, 0, 1)))
                    for part, number in struck.items() if random.random() < 0.8
                }
                expected = plainly_is_reason(plain, rows, thing)
                self.assertIs(is_reason(schema, book, lacking, rows, thing), expected)
                seen[expected] += len(thing) > 1
        self.assertGreater(min(seen.values()), 50)

    def check_told(self, schema, book, lacking, rows, part, struck):
        """Check that a reason is told for a candidate exactly if it is struck."""
        found = reason(schema, book, lacking, rows, *part)
        if part not in struck:
            self.assertIsNone(found)
        else:
            self.assertIs(is_reason(schema, book, lacking, rows, found), True)
            self.assertIn(part, found)
            self.assertEqual(list(found), sorted(found))
            self.assertTrue(plainly_is_reason(Plain(schema, book), rows, found))


class ReasonTest(unittest.TestCase):
    def test_reasons(self):
        for part in STRUCK:
            found = reason(SCHEMA, BOOK, OF_TOWN, BARE, *part)
            self.assertIn(part, found)
            self.assertIs(told(BOOK, OF_TOWN, BARE, found), True)
            self.assertEqual(list(found), sorted(found))
            self.assertTrue(all(same(number, int(number)) for number in found.values()))
        # Without the towns behind it, nothing strikes the first one.
        self.assertEqual(len(reason(SCHEMA, BOOK, OF_TOWN, BARE, *FIRST)), 3)

    def test_no_reason(self):
        self.assertIsNone(reason(SCHEMA, BOOK, OF_TOWN, BARE, "town", 0, QUIET))
        self.assertIsNone(reason(SCHEMA, BOOK, OF_TOWN, BARE, "shop", 0, ("shop", (True,), ())))
        ring = {**BARE, "town": [((0, 0), (True, None))]}
        for busy in (False, True):
            self.assertIsNone(reason(SCHEMA, BOOK, OF_TOWN, ring, "town", 0, ("town", (True, busy), (busy,))))
        self.assertIsNone(reason(SCHEMA, [], [], {**BARE, "town": []}, "shop", 0, ("shop", (True,), ())))

    def test_rows_without_a_filling(self):
        book = BOOK + [("town", BUSY)]
        self.assertEqual(last_round(SCHEMA, book, OF_TOWN, BARE), 3)
        for index in range(3):
            for kind in candidates(SCHEMA, book, OF_TOWN, BARE, 0)["town"][index]:
                found = reason(SCHEMA, book, OF_TOWN, BARE, "town", index, kind)
                self.assertIs(told(book, OF_TOWN, BARE, found), True)

    def test_many_rows(self):
        rows = {"town": [((at, at + 1), (True, None)) for at in range(3000)], "shop": [], "land": []}
        found = reason(SCHEMA, BOOK, OF_TOWN, rows, "town", 0, ("town", (True, True), (True,)))
        self.assertEqual(found["town", 0, ("town", (True, True), (True,))], 3000)
        self.assertIs(told(BOOK, OF_TOWN, rows, found), True)
        del found["town", 1500, ("town", (True, True), (True,))]
        self.assertIs(told(BOOK, OF_TOWN, rows, found), False)

    def test_unknown_table_and_row(self):
        for thing in objects() + ["sea", "id"]:
            with self.subTest(repr(thing)[:60]):
                self.assertRaises(UnknownTable, reason, SCHEMA, BOOK, OF_TOWN, BARE, thing, 0, QUIET)
                self.assertRaises(UnknownTable, reason, SCHEMA, BOOK, OF_TOWN, BARE, thing, thing, thing)
                if not same(thing, 0) and not same(thing, 1):
                    self.assertRaises(UnknownRow, reason, SCHEMA, BOOK, OF_TOWN, BARE, "town", thing, QUIET)
                self.assertRaises(UnknownRow, reason, SCHEMA, BOOK, OF_TOWN, BARE, "land", thing, ("land", (), ()))
                self.assertRaises(UnknownRow, reason, SCHEMA, BOOK, OF_TOWN, BARE, "land", thing, thing)
        for index in (3, -1, True, "0", None):
            self.assertRaises(UnknownRow, reason, SCHEMA, BOOK, OF_TOWN, BARE, "town", index, LAST[2])

    def test_invalid_kind(self):
        kinds = [key[2] for key in WRONG_KEYS if isinstance(key, tuple) and len(key) == 3]
        for thing in objects() + kinds:
            with self.subTest(repr(thing)[:60]):
                # What is a candidate of another row is none of this one, the shop that is open.
                if thing != ("shop", (True,), ()):
                    self.assertRaises(InvalidKind, reason, SCHEMA, BOOK, OF_TOWN, BARE, "shop", 0, thing)
        others = [("shop", (False,), ()), ("shop", (True,), ()), ("land", (), ())]
        others += [["town", (False, True), (True,)], ("town", [False, True], (True,)), ("town", (False, 1), (True,))]
        for thing in others + [QUIET, FIRST[2]]:
            self.assertRaises(InvalidKind, reason, SCHEMA, BOOK, OF_TOWN, BARE, "town", 2, thing)


class AllCallsTest(unittest.TestCase):
    def test_errors_for_any_objects(self):
        for call, more in CALLS:
            for thing in objects():
                with self.subTest(f"{call.__name__}: {repr(thing)[:60]}"):
                    if not same(thing, []):
                        self.assertRaises(InvalidBook, call, SCHEMA, thing, OF_TOWN, BARE, *more)
                        self.assertRaises(InvalidBook, call, SCHEMA, thing, thing, thing, *[thing] * len(more))
                    self.assertRaises(InvalidBook, call, SCHEMA, [thing], OF_TOWN, BARE, *more)
                    if not is_lacking(SCHEMA, thing):
                        self.assertRaises(InvalidLacking, call, SCHEMA, BOOK, thing, BARE, *more)
                        self.assertRaises(InvalidLacking, call, SCHEMA, BOOK, thing, thing, *[thing] * len(more))
                    self.assertRaises(InvalidRows, call, SCHEMA, BOOK, OF_TOWN, thing, *more)
                    self.assertRaises(InvalidRows, call, SCHEMA, BOOK, OF_TOWN, thing, *[thing] * len(more))
                    self.assertRaises(InvalidRows, call, SCHEMA, BOOK, OF_TOWN, {**BARE, "land": [thing]}, *more)
            self.assertRaises(InvalidBook, call, SCHEMA, BOOK * 7, OF_TOWN, BARE, *more)
            self.assertRaises(InvalidLacking, call, SCHEMA, BOOK, OF_TOWN * 2, BARE, *more)
            self.assertRaises(InvalidRows, call, SCHEMA, BOOK, [], BARE, *more)
            self.assertRaises(InvalidRows, call, SCHEMA, BOOK, OF_TOWN, {**BARE, "town": [((1, 2), (True, False))]}, *more)

    def test_first_error(self):
        for call, more in CALLS:
            nothing = [None] * len(more)
            self.assertRaises(InvalidBook, call, SCHEMA, None, None, None, *nothing)
            self.assertRaises(InvalidLacking, call, SCHEMA, BOOK, None, None, *nothing)
            self.assertRaises(InvalidRows, call, SCHEMA, BOOK, OF_TOWN, None, *nothing)
        self.assertRaises(UnknownTable, reason, SCHEMA, BOOK, OF_TOWN, BARE, None, None, None)
        self.assertRaises(UnknownRow, reason, SCHEMA, BOOK, OF_TOWN, BARE, "town", None, None)

    def test_by_name_new_and_arguments_kept(self):
        book, lacking, rows, thing = deepcopy(BOOK), list(OF_TOWN), deepcopy(BARE), dict(STRUCK)
        self.assertIs(is_reason(thing=thing, rows=rows, lacking=lacking, book=book, schema=SCHEMA), True)
        self.assertIs(told(book, lacking, rows, dict(reversed(thing.items()))), True)
        table, index, kind = FIRST
        found = reason(row_kind=kind, index=index, table=table, rows=rows, lacking=lacking, book=book, schema=SCHEMA)
        again = dict(found)
        found.clear()
        self.assertEqual(reason(SCHEMA, book, lacking, rows, *FIRST), again)
        self.assertRaises(InvalidKind, reason, SCHEMA, book, lacking, rows, "town", 0, None)
        self.assertRaises(InvalidRows, is_reason, SCHEMA, book, [], rows, thing)
        self.assertTrue(same([book, lacking, rows, thing], [BOOK, OF_TOWN, BARE, STRUCK]))


if __name__ == "__main__":
    unittest.main()
