"""Candidates of bare rows: points [2], [12], [14] and [25]."""

import unittest
from copy import deepcopy
from random import Random

from tests.objects import Plain, nested, objects, same, some_book, some_rows, some_schema
from toldbyrest.candidates import candidates, last_round, worked_out
from toldbyrest.errors import InvalidBook, InvalidLacking, InvalidNumber, InvalidRows
from toldbyrest.fillings import fillings, sure
from toldbyrest.kinds import view_on
from toldbyrest.lacking import bare, is_lacking
from toldbyrest.left import kinds_left
from toldbyrest.schemas import Schema

SCHEMA = Schema({
    "town": ((("id", "town"), ("of", "town")), ("old", "busy")),
    "shop": ((("at", "town"),), ("open",)),
    "land": ((("id", "land"),), ()),
})
PLACES = [("shop", "open"), ("town", "busy"), ("town", "old")]
OF_TOWN = [("town", "busy")]
YES = ("yes",)
NO = ("not", YES)
OLD = ("flag", "old")
BUSY = ("flag", "busy")
OPEN = ("flag", "open")
SEEN = ("has", "id", "shop", "at", OPEN)
ABOVE = ("has", "of", "town", "id", BUSY)
EMPTY = {"land": [], "shop": [], "town": []}
BARE = {
    "town": [((1, 2), (True, None)), ((2, 3), (False, None))], "shop": [((1,), (True,)), ((2,), (False,))],
    "land": [((1,), ())],
}
MANY = 3000
NUMBERS = (0, 1, 2, 5, 10 ** 39)


def both(condition):
    """Return a rule: a town is busy exactly if it meets a condition."""
    return ("town", ("or", ("and", BUSY, condition), ("and", ("not", BUSY), ("not", condition))))


BOOK = [both(SEEN)]
CALLS = [(candidates, [1]), (worked_out, [1]), (last_round, [])]


class CandidatesTest(unittest.TestCase):
    def check(self, schema, book, lacking, rows, stages=None):
        """Check all three calls against the candidates behind 0, 1, .. rounds, as they are read word by word."""
        stages = stages or Plain(schema, book).stages_of_candidates(rows)
        last = len(stages) - 1
        self.assertTrue(same(last_round(schema, book, lacking, rows), last))
        for number in list(range(last + 2)) + [last + 7, 10 ** 39]:
            there = stages[min(number, last)]
            expected = {table: [there[table, index] for index in range(len(rows[table]))] for table in schema.tables}
            self.assertTrue(same(candidates(schema, book, lacking, rows, number), expected))
            flags = {
                table: [
                    (values, self.agreed(flags, there[table, index])) for index, (values, flags) in enumerate(rows[table])
                ]
                for table in schema.tables
            }
            self.assertTrue(same(worked_out(schema, book, lacking, rows, number), flags))
        return last

    def agreed(self, flags, kinds):
        """Return the flags of a row with those that all its candidates have in the place of None."""
        found = [sorted({kind[1][at] for kind in kinds}) for at in range(len(flags))]
        return tuple(
            flag if flag is not None else found[at][0] if len(found[at]) == 1 else None for at, flag in enumerate(flags)
        )

    def test_kept_flags_work_out_a_lacking_one(self):
        self.assertEqual(self.check(SCHEMA, BOOK, OF_TOWN, BARE), 1)
        town = worked_out(SCHEMA, BOOK, OF_TOWN, BARE, 1)["town"]
        self.assertEqual(town, [((1, 2), (True, True)), ((2, 3), (False, False))])
        self.assertEqual(worked_out(SCHEMA, BOOK, OF_TOWN, BARE, 0), {table: BARE[table] for table in sorted(BARE)})

    def test_number_0_leaves_what_is_left_and_has_the_kept_flags(self):
        town = candidates(SCHEMA, BOOK, OF_TOWN, BARE, 0)["town"]
        for index, old in enumerate((True, False)):
            self.assertEqual(town[index], [kind for kind in kinds_left(SCHEMA, BOOK, "town") if kind[1][0] is old])
        # A row kind that no data have is no candidate from the beginning.
        never = [both(SEEN), ("shop", ("not", OPEN))]
        rows = {**BARE, "shop": []}
        self.assertEqual(candidates(SCHEMA, never, OF_TOWN, rows, 0)["town"][0], [("town", (True, False), (False,))])
        self.assertEqual(worked_out(SCHEMA, never, OF_TOWN, rows, 0)["town"][0], ((1, 2), (True, False)))
        self.assertEqual(last_round(SCHEMA, never, OF_TOWN, rows), 0)

    def test_the_empty_book(self):
        for lacking in ([], OF_TOWN, PLACES):
            rows = bare(SCHEMA, worked_out(SCHEMA, BOOK, OF_TOWN, BARE, 1), lacking)
            self.assertEqual(self.check(SCHEMA, [], lacking, rows), 0)

    def test_no_lacking_flags_and_all_of_them(self):
        rows = worked_out(SCHEMA, BOOK, OF_TOWN, BARE, 1)
        self.check(SCHEMA, BOOK, [], rows)
        found = candidates(SCHEMA, BOOK, [], rows, 1)
        self.assertEqual([len(found[table][index]) for table in found for index in range(len(found[table]))], [1] * 5)
        self.check(SCHEMA, BOOK, PLACES, bare(SCHEMA, rows, PLACES))
        # Nobody knows whether the shops are open; but a town without one is not busy.
        lone = {**EMPTY, "town": [((5, 5), (None, None))], "shop": [((6,), (None,))]}
        self.assertEqual(worked_out(SCHEMA, BOOK, PLACES, lone, 1)["town"], [((5, 5), (None, False))])

    def test_no_rows(self):
        for lacking in ([], PLACES):
            self.assertEqual(self.check(SCHEMA, BOOK, lacking, EMPTY), 0)
            self.assertEqual(self.check(SCHEMA, [("town", NO)], lacking, EMPTY), 0)

    def test_rows_that_can_have_no_candidate(self):
        # A table that can have no rows, and flags that no row kind has.
        for book in ([("town", NO)], [("town", ("not", OLD)), ("town", OLD)], [("town", ("and", OLD, ("not", OLD)))]):
            self.assertEqual(self.check(SCHEMA, book, OF_TOWN, BARE), 1)
            self.assertEqual(candidates(SCHEMA, book, OF_TOWN, BARE, 0)["town"], [[], []])
            # What stands at the same value has no meeting there, and is struck.
            self.assertEqual(candidates(SCHEMA, book, OF_TOWN, BARE, 1)["shop"], [[], []])
            self.assertEqual(len(candidates(SCHEMA, book, OF_TOWN, BARE, 1)["land"][0]), 1)
        # Where all candidates are struck, nothing is worked out.
        self.assertEqual(worked_out(SCHEMA, [("town", NO)], OF_TOWN, BARE, 3), {key: BARE[key] for key in sorted(BARE)})

    def test_bare_rows_without_a_filling(self):
        book = [("town", ("has", "id", "shop", "at", OPEN)), ("town", BUSY)]
        rows = {**BARE, "shop": [((2,), (False,))]}
        self.assertEqual(fillings(SCHEMA, book, OF_TOWN, rows), [])
        self.assertEqual(self.check(SCHEMA, book, OF_TOWN, rows), 1)
        self.assertEqual(worked_out(SCHEMA, book, OF_TOWN, rows, 0)["town"][0], ((1, 2), (True, True)))
        self.assertEqual(worked_out(SCHEMA, book, OF_TOWN, rows, 1)["town"][0], ((1, 2), (True, None)))

    def test_one_row_behind_the_other(self):
        # A town is busy exactly if the next one is; the last one is not, as it has no next one.
        rows = {**EMPTY, "town": [((at, at + 1), (False, None)) for at in range(8)]}
        self.assertEqual(self.check(SCHEMA, [both(ABOVE)], OF_TOWN, rows), 8)
        for number in range(9):
            town = worked_out(SCHEMA, [both(ABOVE)], OF_TOWN, rows, number)["town"]
            self.assertEqual([flags[1] for _, flags in town], [None] * (8 - number) + [False] * number)

    def test_what_fillings_have_in_common_need_not_be_worked_out(self):
        rows = {**EMPTY, "town": [((1, 1), (True, None)), ((1, 2), (False, None))]}
        for book in ([both(("has", "of", "town", "id", ("and", BUSY, OLD)))], [both(ABOVE)], [both(SEEN)]):
            self.check(SCHEMA, book, OF_TOWN, rows)
        # One town is busy exactly if the other one is not, and so is the third one: a ring of three has no filling.
        ring = {**EMPTY, "town": [((at, (at + 1) % 3), (True, None)) for at in range(3)]}
        book = [both(("not", ABOVE))]
        self.check(SCHEMA, book, OF_TOWN, ring)
        self.assertIsNone(sure(SCHEMA, book, OF_TOWN, ring))
        self.assertEqual([len(kinds) for kinds in candidates(SCHEMA, book, OF_TOWN, ring, 9)["town"]], [2, 2, 2])

    def test_the_same_value_in_two_columns(self):
        schema = Schema({"a": ((("i", "k"), ("j", "k"), ("l", "k")), ("f", "g"))})
        asks = ("has", "i", "a", "j", ("flag", "f"))
        books = [
            [("a", ("or", ("and", ("flag", "g"), asks), ("and", ("not", ("flag", "g")), ("not", asks))))],
            [("a", ("or", asks, ("has", "j", "a", "i", ("not", ("flag", "f")))))],
            [("a", ("and", asks, ("not", ("has", "l", "a", "l", ("flag", "g")))))],
            [("a", ("or", ("flag", "f"), ("has", "l", "a", "i", ("has", "l", "a", "j", ("flag", "g")))))],
        ]
        values = [(1, 1, 1), (1, 1, 2), (2, 1, 1), (1, 2, 1), (2, 3, 2)]
        for book in books:
            for lacking in ([("a", "f")], [("a", "g")], [("a", "g"), ("a", "f")]):
                for many in range(1, 6):
                    rows = bare(schema, {"a": [(row, (row[0] == 1, row[1] == 1)) for row in values[:many]]}, lacking)
                    self.check(schema, book, lacking, rows)

    def test_for_two_places_perhaps_two_candidates(self):
        # The row stands at 1 in both columns. At i it does not have g there, at j it has: by two candidates.
        schema = Schema({"a": ((("i", "k"), ("j", "k")), ("f", "g"))})
        asks = [("has", "i", "a", "i", ("flag", "g")), ("has", "j", "a", "j", ("not", ("flag", "g")))]
        book = [("a", ("or", ("not", ("flag", "f")), ("and", ("not", asks[0]), ("not", asks[1]))))]
        rows = {"a": [((1, 1), (None, None))]}
        lacking = [("a", "f"), ("a", "g")]
        self.check(schema, book, lacking, rows)
        found = candidates(schema, book, lacking, rows, 9)["a"][0]
        self.assertEqual([kind for kind in found if kind[1][0]], [])

    def test_who_gives_a_look_but_does_not_fit_the_meeting_is_no_help(self):
        # Such a candidate is there behind the other ones, or goes ahead of them.
        schema = Schema({"a": ((("i", "k"), ("j", "k"), ("l", "k")), ("f",))})
        book = [("a", ("has", "i", "a", "j", ("or", ("flag", "f"), ("has", "j", "a", "l", ("flag", "f")))))]
        values = [((1, 1, 0), (False,)), ((2, 3, 3), (True,)), ((3, 1, 3), (True,)), ((1, 3, 3), (True,))]
        self.assertEqual(self.check(schema, book, [], {"a": values}), 3)
        schema = Schema({"a": ((("i", "k"), ("j", "k")), ("f",)), "b": ((("i", "k"), ("j", "k"), ("l", "k")), ("f", "g"))})
        looks = [("has", "i", "b", "j", ("flag", "f")), ("has", "j", "b", "j", ("flag", "f"))]
        book = [("b", ("has", "j", "a", "i", ("or", looks[0], looks[1])))]
        rows = {"a": [((0, 2), (None,))], "b": [((1, 0, 1), (None, True))]}
        self.check(schema, book, [("a", "f"), ("b", "f")], rows)

    def test_values_of_several_tables_and_of_several_kinds(self):
        # The 1 of the land is another one than that of the town.
        schema = Schema({"town": ((("id", "town"), ("in", "land")), ("big",)), "land": ((("id", "land"),), ("big",))})
        book = [("town", ("or", ("not", ("flag", "big")), ("has", "in", "land", "id", ("flag", "big"))))]
        rows = {"town": [((1, 2), (None,)), ((2, 1), (None,))], "land": [((1,), (True,)), ((2,), (False,))]}
        self.check(schema, book, [("town", "big")], rows)
        town = worked_out(schema, book, [("town", "big")], rows, 1)["town"]
        self.assertEqual(town, [((1, 2), (False,)), ((2, 1), (None,))])

    def test_as_the_document_says_it(self):
        random = Random(12)
        last = {}
        for _ in range(300):
            schema = some_schema(random)
            book = some_book(random, schema)
            plain = Plain(schema, book)
            for _ in range(3):
                lacking = [place for place in schema.flag_places if random.random() < 0.5]
                random.shuffle(lacking)
                rows = bare(schema, some_rows(random, schema), lacking)
                last[self.check(schema, book, lacking, rows, plain.stages_of_candidates(rows))] = True
        self.assertEqual(sorted(last)[:4], [0, 1, 2, 3])

    def test_rows_of_fillings_are_candidates(self):
        random = Random(25)
        seen = 0
        for _ in range(200):
            schema = some_schema(random)
            book = some_book(random, schema)
            lacking = [place for place in schema.flag_places if random.random() < 0.5]
            rows = bare(schema, some_rows(random, schema), lacking)
            if sum(flags.count(None) for table in rows for _, flags in rows[table]) <= 6:
                found = candidates(schema, book, lacking, rows, 10 ** 39)
                flags = worked_out(schema, book, lacking, rows, 10 ** 39)
                for filled in fillings(schema, book, lacking, rows):
                    for table in rows:
                        for index in range(len(rows[table])):
                            self.assertIn(view_on(schema, book, filled, table, index), found[table][index])
                            told = zip(flags[table][index][1], filled[table][index][1])
                            self.assertTrue(all(flag is None or flag == own for flag, own in told))
                            seen += 1
        self.assertGreater(seen, 500)

    def test_many_rows(self):
        town = [((at, at + 1), (None, None)) for at in range(MANY)]
        lacking = [("town", "old"), ("town", "busy")]
        self.assertEqual(last_round(SCHEMA, [both(ABOVE)], lacking, {**EMPTY, "town": town}), MANY)
        found = worked_out(SCHEMA, [both(ABOVE)], lacking, {**EMPTY, "town": town}, MANY // 2)["town"]
        self.assertEqual([flags[1] for _, flags in found], [None] * (MANY // 2) + [False] * (MANY // 2))
        # All rows but a chain stand at one value.
        schema = Schema({"a": ((("i", "k"), ("j", "k"), ("l", "m")), ("f", "g", "h"))})
        rows = {"a": [((at, at + 1, 7), (None, None, None)) for at in range(MANY)]}
        looks = [("has", "j", "a", "i", ("flag", "f")), ("has", "l", "a", "l", ("flag", "g"))]
        book = [("a", ("or", ("not", ("flag", "f")), looks[0])), ("a", ("or", ("flag", "h"), looks[1]))]
        lacking = [("a", "h"), ("a", "f"), ("a", "g")]
        self.assertEqual(last_round(schema, book, lacking, rows), MANY)
        one = {"a": [((7, 7, 7), (None, None, None))] * MANY}
        self.assertEqual(len(candidates(schema, book, lacking, one, 5)["a"]), MANY)
        great = {"a": [((10 ** 39, 10 ** 38, 7), (None, None, None))] * 2}
        self.check(schema, book, lacking, great)

    def test_sixteen_levels(self):
        tree = nested(13, lambda part: ("and", part, ("or", part, NO)), both(SEEN)[1])
        for number in NUMBERS:
            self.assertEqual(
                candidates(SCHEMA, [("town", tree)], OF_TOWN, BARE, number), candidates(SCHEMA, BOOK, OF_TOWN, BARE, number)
            )

    def test_six_rules_and_equal_rules(self):
        for number in NUMBERS:
            self.assertEqual(candidates(SCHEMA, BOOK * 6, OF_TOWN, BARE, number), candidates(SCHEMA, BOOK, OF_TOWN, BARE, number))


class AllCallsTest(unittest.TestCase):
    def test_errors_for_any_objects(self):
        for call, more in CALLS:
            for thing in objects():
                with self.subTest(f"{call.__name__}: {repr(thing)[:60]}"):
                    if not same(thing, []):
                        self.assertRaises(InvalidBook, call, SCHEMA, thing, OF_TOWN, BARE, *more)
                        self.assertRaises(InvalidBook, call, SCHEMA, thing, thing, thing, *[thing] * len(more))
                    self.assertRaises(InvalidBook, call, SCHEMA, [thing], OF_TOWN, BARE, *more)
                    if not is_lacking(SCHEMA, thing):
                        self.assertRaises(InvalidLacking, call, SCHEMA, BOOK, thing, BARE, *more)
                        self.assertRaises(InvalidLacking, call, SCHEMA, BOOK, thing, thing, *[thing] * len(more))
                    self.assertRaises(InvalidRows, call, SCHEMA, BOOK, OF_TOWN, thing, *more)
                    self.assertRaises(InvalidRows, call, SCHEMA, BOOK, OF_TOWN, thing, *[thing] * len(more))
                    self.assertRaises(InvalidRows, call, SCHEMA, BOOK, OF_TOWN, {**BARE, "land": [thing]}, *more)
                    if thing is not None:
                        wrong = {**BARE, "town": [((1, 2), (True, thing))]}
                        self.assertRaises(InvalidRows, call, SCHEMA, BOOK, OF_TOWN, wrong, *more)

    def test_wrong_arguments(self):
        for call, more in CALLS:
            self.assertRaises(InvalidBook, call, SCHEMA, BOOK * 7, OF_TOWN, BARE, *more)
            self.assertRaises(InvalidBook, call, SCHEMA, tuple(BOOK), OF_TOWN, BARE, *more)
            self.assertRaises(InvalidLacking, call, SCHEMA, BOOK, OF_TOWN * 2, BARE, *more)
            self.assertRaises(InvalidLacking, call, SCHEMA, BOOK, tuple(OF_TOWN), BARE, *more)
            self.assertRaises(InvalidLacking, call, SCHEMA, BOOK, [["town", "busy"]], BARE, *more)
            self.assertRaises(InvalidRows, call, SCHEMA, BOOK, [], BARE, *more)
            self.assertRaises(InvalidRows, call, SCHEMA, BOOK, PLACES, BARE, *more)
            for row in (
                ((1, 2), (1, None)), ((1, 2), (None, None)), ((True, 2), (True, None)), ((1, -2), (True, None)),
                ((1,), (True, None)),
            ):
                self.assertRaises(InvalidRows, call, SCHEMA, BOOK, OF_TOWN, {**BARE, "town": [row]}, *more)

    def test_invalid_number(self):
        for call in (candidates, worked_out):
            for thing in objects() + [-1, "1", [1], (1,), {1: 1}, True, False, None]:
                with self.subTest(repr(thing)[:60]):
                    if not isinstance(thing, int) or isinstance(thing, bool) or thing < 0:
                        self.assertRaises(InvalidNumber, call, SCHEMA, BOOK, OF_TOWN, BARE, thing)
                        self.assertRaises(InvalidNumber, call, SCHEMA, [("town", NO)], [], EMPTY, thing)
                    else:
                        call(SCHEMA, BOOK, OF_TOWN, BARE, thing)

    def test_first_error(self):
        for call, more in CALLS:
            nothing = [None] * len(more)
            self.assertRaises(InvalidBook, call, SCHEMA, None, None, None, *nothing)
            self.assertRaises(InvalidLacking, call, SCHEMA, BOOK, None, None, *nothing)
            self.assertRaises(InvalidRows, call, SCHEMA, BOOK, OF_TOWN, None, *nothing)

    def test_by_name_new_and_arguments_kept(self):
        book, lacking, rows = deepcopy(BOOK), list(OF_TOWN), deepcopy(BARE)
        found = candidates(number=0, rows=rows, lacking=lacking, book=book, schema=SCHEMA)
        flags = worked_out(number=1, rows=rows, lacking=lacking, book=book, schema=SCHEMA)
        self.assertEqual(last_round(rows=rows, lacking=lacking, book=book, schema=SCHEMA), 1)
        for one in (found, flags):
            self.assertEqual(list(one), ["land", "shop", "town"])
        again = deepcopy([found, flags])
        own = [part for table in found for part in [found[table], flags[table]] + found[table]]
        twins = candidates(SCHEMA, [], [], {**EMPTY, "shop": [((1,), (True,))] * 2}, 0)["shop"]
        lists = own + twins + list(rows.values())
        self.assertEqual(len({id(part) for part in lists}), len(lists))
        for part in own:
            part.clear()
        self.assertEqual([candidates(SCHEMA, book, lacking, rows, 0), worked_out(SCHEMA, book, lacking, rows, 1)], again)
        for call, more in CALLS:
            self.assertRaises(InvalidRows, call, SCHEMA, book, [], rows, *more)
        self.assertRaises(InvalidNumber, candidates, SCHEMA, book, lacking, rows, -1)
        self.assertTrue(same([book, lacking, rows], [BOOK, OF_TOWN, BARE]))
        turned = {table: rows[table] for table in reversed(rows)}
        self.assertEqual(list(candidates(SCHEMA, book, lacking, turned, 0)), ["land", "shop", "town"])
        self.assertEqual(candidates(SCHEMA, book, lacking, turned, 0), again[0])


if __name__ == "__main__":
    unittest.main()
