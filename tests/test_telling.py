"""Conditions that tell flags: points [2], [8], [14] and [33]."""

import unittest
from copy import deepcopy
from random import Random

from tests.objects import (
    Plain, chain, exactly, nested, objects, plainly_meets, same, some_book, some_condition, some_rows, some_schema,
    some_telling_book,
)
from toldbyrest.books import keeps
from toldbyrest.conditions import flags_in, is_condition
from toldbyrest.errors import InvalidBook, InvalidCondition, InvalidLacking, UnknownFlag, UnknownTable
from toldbyrest.fillings import fillings
from toldbyrest.lacking import bare, is_lacking
from toldbyrest.left import kinds_left
from toldbyrest.looks import looks
from toldbyrest.schemas import Schema
from toldbyrest.telling import is_telling, telling
from toldbyrest.texts import format_condition, parse_condition
from toldbyrest.told import rounds_needed

SCHEMA = Schema({
    "town": ((("id", "town"), ("of", "town")), ("old", "busy")),
    "shop": ((("at", "town"),), ("open",)),
    "land": ((("id", "land"),), ()),
})
PLACES = [("shop", "open"), ("town", "busy"), ("town", "old")]
OF_TOWN = [("town", "busy")]
YES = ("yes",)
NO = ("not", YES)
OLD = ("flag", "old")
BUSY = ("flag", "busy")
OPEN = ("flag", "open")
SEEN = ("has", "id", "shop", "at", OPEN)
BOOK = [("town", exactly("busy", SEEN))]
CALLS = [(is_telling, [SEEN]), (telling, [])]


class IsTellingTest(unittest.TestCase):
    def check(self, book, lacking, condition, expected, place=("town", "busy"), schema=SCHEMA):
        self.assertIs(is_telling(schema, book, lacking, *place, condition), expected)

    def test_conditions_that_tell(self):
        for condition in (SEEN, ("not", ("not", SEEN)), ("and", YES, SEEN), ("or", SEEN, ("and", OLD, SEEN))):
            self.check(BOOK, OF_TOWN, condition, True)
        for condition in (("not", SEEN), YES, NO, OLD, ("and", OLD, SEEN), ("or", OLD, SEEN), ("has", "id", "shop", "at", YES)):
            self.check(BOOK, OF_TOWN, condition, False)

    def test_lacking_flags(self):
        # Such a condition is met by just these rows, but does not tell what is lacking.
        self.check(BOOK, OF_TOWN, BUSY, False)
        self.check(BOOK, OF_TOWN, ("or", BUSY, SEEN), False)
        self.check(BOOK, OF_TOWN, ("or", SEEN, ("has", "of", "town", "id", ("and", BUSY, NO))), False)
        self.check(BOOK, PLACES[:2], SEEN, False)
        self.check(BOOK, PLACES[1:], SEEN, True)
        self.check(BOOK, PLACES[1:], ("or", SEEN, ("and", OLD, NO)), False)
        self.check(BOOK, OF_TOWN, ("or", SEEN, ("and", OLD, NO)), True)

    def test_on_some_data_alone(self):
        # It tells the flag where all shops are open, or where no town lies in another one.
        self.check(BOOK, OF_TOWN, ("has", "id", "shop", "at", YES), False)
        self.check(BOOK + [("shop", OPEN)], OF_TOWN, ("has", "id", "shop", "at", YES), True)
        self.check(BOOK, OF_TOWN, ("has", "of", "shop", "at", OPEN), False)
        self.check(BOOK, OF_TOWN, ("not", ("has", "id", "shop", "at", ("not", OPEN))), False)

    def test_what_no_data_have(self):
        # No town can be there, so each condition without lacking flags tells what they are.
        for condition in (YES, NO, OLD, SEEN):
            self.check([("town", NO)], OF_TOWN, condition, True)
        self.check([("town", NO)], OF_TOWN, BUSY, False)
        self.check([("town", BUSY)], OF_TOWN, YES, True)
        self.check([("town", BUSY)], OF_TOWN, NO, False)
        self.check([("shop", NO)] + BOOK, OF_TOWN, NO, True)

    def test_more_rounds(self):
        # A condition may tell what takes more than one round.
        schema, book, lacking = chain()
        deep = ("has", "j", "b", "j", ("has", "i", "a", "i", ("flag", "f")))
        self.check(book, lacking, deep, True, ("c", "f"), schema)
        self.check(book, lacking, ("has", "l", "c", "l", deep), True, ("d", "f"), schema)
        self.check(book, lacking, ("has", "l", "c", "l", ("flag", "f")), False, ("d", "f"), schema)
        self.check(book, lacking[:1] + lacking[2:], ("has", "l", "c", "l", ("flag", "f")), True, ("d", "f"), schema)

    def test_as_the_document_says_it(self):
        random = Random(33)
        seen = {}
        for _ in range(400):
            schema = some_schema(random)
            if not schema.flag_places:
                continue
            book, places = some_telling_book(random, schema, 2)
            for table, flag in places:
                condition = some_condition(random, schema, table, 3)
                told = [rule[1][2] for name, rule in book if name == table and rule[0] == "or" and rule[1][0] == "and"]
                own = [part for part in told if (table, exactly(flag, part)) in book]
                condition = random.choice([condition] + own)
                beside = book + [(table, ("or", YES, condition))]
                plain = Plain(schema, beside)
                if len(plain.looks) <= 3:
                    at = schema.flags(table).index(flag)
                    views = kinds_left(schema, beside, table)
                    met = [plain.meets(view, condition) == view[1][at] for view in views]
                    clean = not set(flags_in(table, condition)) & set(places)
                    self.check(book, places, condition, clean and all(met), (table, flag), schema)
                    seen[clean, all(met), len(views) > 0] = True
                    rows = some_rows(random, schema)
                    if clean and all(met) and keeps(schema, book, rows):
                        self.assertTrue(all(
                            plainly_meets(schema, rows, table, index, condition) == flags[at]
                            for index, (_, flags) in enumerate(rows[table])
                        ))
        self.assertTrue({(clean, met, True) for clean in (False, True) for met in (False, True)} <= set(seen))


class TellingTest(unittest.TestCase):
    def check(self, schema, book, lacking, table, flag):
        """Check a condition that is returned, or that there is none; return it."""
        found = telling(schema, book, lacking, table, flag)
        needed = rounds_needed(schema, book, lacking, table, flag)
        self.assertEqual(found is None, needed is None or needed > 1)
        if found is not None:
            self.assertTrue(is_condition(schema, table, found))
            self.assertEqual(parse_condition(schema, table, format_condition(found)), found)
            self.assertFalse(set(flags_in(table, found)) & set(lacking))
            self.assertIs(is_telling(schema, book, lacking, table, flag, found), True)
        return found

    def test_no_round(self):
        self.assertEqual(self.check(SCHEMA, [("town", exactly("busy", OLD))], OF_TOWN, "town", "busy"), OLD)
        self.assertEqual(self.check(SCHEMA, [("town", exactly("busy", ("not", OLD)))], OF_TOWN, "town", "busy"), ("not", OLD))
        self.check(SCHEMA, [("town", BUSY)], PLACES, "town", "busy")
        self.check(SCHEMA, [("town", ("not", BUSY))], PLACES, "town", "busy")
        for place in PLACES:
            self.check(SCHEMA, [("town", NO), ("shop", NO)], PLACES, *place)

    def test_one_round(self):
        self.assertEqual(self.check(SCHEMA, BOOK, OF_TOWN, "town", "busy"), SEEN)
        negated = [("town", exactly("busy", ("not", SEEN)))]
        self.assertEqual(self.check(SCHEMA, negated, OF_TOWN, "town", "busy"), ("not", SEEN))
        both = [("town", exactly("busy", ("or", ("and", OLD, SEEN), ("and", ("not", OLD), ("has", "of", "shop", "at", OPEN)))))]
        self.check(SCHEMA, both, OF_TOWN, "town", "busy")
        self.assertIsNotNone(telling(SCHEMA, both, OF_TOWN, "town", "busy"))
        self.assertIsNone(telling(SCHEMA, both, PLACES[1:], "town", "busy"))

    def test_none_or_more_rounds(self):
        self.assertIsNone(telling(SCHEMA, BOOK, [("shop", "open")], "shop", "open"))
        self.assertIsNone(telling(SCHEMA, [], PLACES, "town", "old"))
        schema, book, lacking = chain()
        self.assertEqual([self.check(schema, book[:2], lacking[:2], *place) is None for place in lacking[:2]], [False, True])
        self.assertEqual([telling(schema, book, lacking, *place) is None for place in lacking], [False, True, True])

    def test_what_is_told_in_turn(self):
        # A town is known exactly if an open shop is at it; its being busy is told by what the rules make of that.
        schema = Schema({"town": ((("id", "town"),), ("busy", "known")), "shop": ((("at", "town"),), ("open",))})
        seen = ("has", "id", "shop", "at", OPEN)
        book = [("town", exactly("known", seen)), ("town", exactly("busy", ("flag", "known")))]
        lacking = [("town", "busy"), ("town", "known")]
        for place in lacking:
            self.assertEqual(self.check(schema, book, lacking, *place), seen)

    def test_the_flag_of_a_row_that_is_looked_at(self):
        # Shops are open exactly if all towns at them are old; the towns tell it by flags that are kept.
        book = [("shop", exactly("open", ("not", ("has", "at", "town", "id", ("not", OLD)))))]
        found = self.check(SCHEMA, book, [("shop", "open")], "shop", "open")
        self.assertEqual(found, ("not", ("has", "at", "town", "id", ("not", OLD))))
        # A town whose shops are all closed is not busy, and the shops of a busy one are all open.
        book = [("town", ("or", ("not", BUSY), ("not", ("has", "id", "shop", "at", ("not", OPEN))))),
                ("town", ("or", BUSY, ("not", SEEN))), ("shop", ("has", "at", "town", "id", YES))]
        self.check(SCHEMA, book, [("shop", "open")], "shop", "open")
        self.assertIsNotNone(telling(SCHEMA, book, [("shop", "open")], "shop", "open"))

    def test_deep_conditions(self):
        schema = Schema({"town": ((("id", "town"),), ("a", "b", "c"))})
        odd = exactly("a", exactly("b", ("has", "id", "town", "id", ("flag", "b"))))
        found = self.check(schema, [("town", exactly("c", odd))], [("town", "c")], "town", "c")
        self.assertIsNotNone(found)
        deep = nested(11, lambda part: ("not", part), SEEN)
        self.assertEqual(self.check(SCHEMA, [("town", exactly("busy", deep))], OF_TOWN, "town", "busy"), ("not", SEEN))

    def test_at_random(self):
        random = Random(133)
        seen = {}
        for turn in range(600):
            schema = some_schema(random)
            if schema.flag_places:
                book, lacking = some_telling_book(random, schema, 2)
                if turn % 4 == 0:
                    book, lacking = some_book(random, schema, 3, 2), schema.flag_places[:2]
                for place in lacking:
                    found = self.check(schema, book, lacking, *place)
                    if found is not None:
                        seen[rounds_needed(schema, book, lacking, *place), len(looks(schema, [(place[0], found)])) > 0] = True
                        self.check_fillings(random, schema, book, lacking, place, found)
                    seen[found] = True
        self.assertTrue({(0, False), (1, True)} <= set(seen))
        self.assertGreater(len(seen), 40)

    def check_fillings(self, random, schema, book, lacking, place, condition):
        """Check that in fillings of rows just the rows that have the flag meet the condition."""
        rows = bare(schema, some_rows(random, schema), lacking)
        table, flag = place
        if sum(flags.count(None) for name in rows for _, flags in rows[name]) <= 6:
            for filled in fillings(schema, book, lacking, rows):
                for index, (_, flags) in enumerate(filled[table]):
                    met = plainly_meets(schema, filled, table, index, condition)
                    self.assertIs(met, flags[schema.flags(table).index(flag)])

    def test_many_flags_and_two_looks(self):
        random = Random(233)
        columns = (("i", "k"), ("j", "k"), ("l", "k"))
        found = 0
        for _ in range(400):
            schema = Schema({name: (columns[:random.randint(1, 3)], ("f", "g", "h")) for name in "abcd"[:random.randint(1, 4)]})
            places = random.sample(schema.flag_places, 2)
            book = [(table, exactly(flag, some_condition(random, schema, table, 5))) for table, flag in places]
            table = random.choice(schema.tables)
            book.append((table, some_condition(random, schema, table, 4)))
            if 0 < len(looks(schema, book)) <= 2:
                for place in places:
                    condition = self.check(schema, book, places, *place)
                    found += condition is not None and len(looks(schema, [(place[0], condition)])) > 0
        self.assertGreater(found, 20)

    def test_new_and_arguments_kept(self):
        book, lacking = deepcopy(BOOK), list(OF_TOWN)
        found = telling(flag="busy", table="town", lacking=lacking, book=book, schema=SCHEMA)
        self.assertIs(is_telling(condition=found, flag="busy", table="town", lacking=lacking, book=book, schema=SCHEMA), True)
        self.assertTrue(same([book, lacking], [BOOK, OF_TOWN]))
        for call, more in CALLS:
            self.assertRaises(UnknownFlag, call, SCHEMA, book, lacking, "town", "old", *more)
        self.assertRaises(InvalidCondition, is_telling, SCHEMA, book, lacking, "town", "busy", None)
        self.assertTrue(same([book, lacking], [BOOK, OF_TOWN]))


class ErrorsTest(unittest.TestCase):
    def test_errors_for_any_objects(self):
        for call, more in CALLS:
            for thing in objects():
                with self.subTest(f"{call.__name__}: {repr(thing)[:60]}"):
                    nothing = [thing] * len(more)
                    if not same(thing, []):
                        self.assertRaises(InvalidBook, call, SCHEMA, thing, OF_TOWN, "town", "busy", *more)
                        self.assertRaises(InvalidBook, call, SCHEMA, thing, thing, thing, thing, *nothing)
                    self.assertRaises(InvalidBook, call, SCHEMA, [thing], OF_TOWN, "town", "busy", *more)
                    if not is_lacking(SCHEMA, thing):
                        self.assertRaises(InvalidLacking, call, SCHEMA, BOOK, thing, "town", "busy", *more)
                        self.assertRaises(InvalidLacking, call, SCHEMA, BOOK, thing, thing, thing, *nothing)
                    self.assertRaises(UnknownTable, call, SCHEMA, BOOK, OF_TOWN, thing, "busy", *more)
                    self.assertRaises(UnknownTable, call, SCHEMA, BOOK, OF_TOWN, thing, thing, *nothing)
                    self.assertRaises(UnknownFlag, call, SCHEMA, BOOK, OF_TOWN, "town", thing, *more)
                    self.assertRaises(UnknownFlag, call, SCHEMA, BOOK, OF_TOWN, "town", thing, *nothing)

    def test_invalid_condition(self):
        wrong = [OPEN, list(OLD), ("flag", "old", "old"), SEEN + (YES,), SEEN[:4], ("not", list(OLD)), ("and", OLD),
                 ("has", "at", "town", "id", YES), ("has", "id", "shop", "at", OLD)]
        for thing in [thing for thing in objects() if thing != YES] + wrong:
            with self.subTest(repr(thing)[:60]):
                for book in (BOOK, [], [("town", NO)]):
                    self.assertRaises(InvalidCondition, is_telling, SCHEMA, book, OF_TOWN, "town", "busy", thing)
                self.assertRaises(InvalidCondition, is_telling, SCHEMA, BOOK, OF_TOWN, "town", "busy", ("and", BUSY, thing))

    def test_wrong_arguments(self):
        for call, more in CALLS:
            for book in (BOOK * 7, tuple(BOOK), [list(BOOK[0])], [("shop", BUSY)]):
                self.assertRaises(InvalidBook, call, SCHEMA, book, OF_TOWN, "town", "busy", *more)
            # Kept flags where lacking ones are asked for, among others.
            for lacking in (OF_TOWN * 2, tuple(OF_TOWN), [["town", "busy"]], [("town", "id")], [("town", "open")], [("town",)]):
                self.assertRaises(InvalidLacking, call, SCHEMA, BOOK, lacking, "town", "busy", *more)
            for table in ("sea", "busy", ("town", "busy")):
                self.assertRaises(UnknownTable, call, SCHEMA, BOOK, OF_TOWN, table, "busy", *more)
            for table, flag in (("town", "old"), ("shop", "open"), ("shop", "busy"), ("land", "busy"), ("town", "id")):
                self.assertRaises(UnknownFlag, call, SCHEMA, BOOK, OF_TOWN, table, flag, *more)
            self.assertRaises(UnknownFlag, call, SCHEMA, BOOK, [], "town", "busy", *more)

    def test_first_error(self):
        for call, more in CALLS:
            nothing = [None] * len(more)
            self.assertRaises(InvalidBook, call, SCHEMA, None, None, None, None, *nothing)
            self.assertRaises(InvalidLacking, call, SCHEMA, BOOK, None, None, None, *nothing)
            self.assertRaises(UnknownTable, call, SCHEMA, BOOK, OF_TOWN, None, None, *nothing)
            self.assertRaises(UnknownFlag, call, SCHEMA, BOOK, OF_TOWN, "town", None, *nothing)
        self.assertRaises(InvalidCondition, is_telling, SCHEMA, BOOK, OF_TOWN, "town", "busy", None)


if __name__ == "__main__":
    unittest.main()
