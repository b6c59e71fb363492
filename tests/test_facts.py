"""The facts of point [14], over schemas and books made at random; those on reach stand in test_reach."""

import unittest
from random import Random

from tests.objects import Plain, some_book, some_condition, some_rows, some_schema, some_telling_book
from tests.test_tellers import least_and_greatest
from toldbyrest.apart import data_apart, data_behind, data_near
from toldbyrest.books import keeps
from toldbyrest.candidates import candidates, last_round, worked_out
from toldbyrest.fillings import fillings, sure
from toldbyrest.follows import are_alike, follows
from toldbyrest.kinds import row_kinds, view_on
from toldbyrest.lacking import bare
from toldbyrest.left import kinds_left, rows_with
from toldbyrest.looks import looks
from toldbyrest.needed import greatest_spoilers, least_rules
from toldbyrest.pairs import pairs_left
from toldbyrest.reach import cut_out
from toldbyrest.single import greatest_without, least_for
from toldbyrest.tellers import do_tell, greatest_mutes, least_tellers
from toldbyrest.told import is_told, levels


def some_flagged(random):
    """Return a schema with flags, a book, and lacking flags that are rather told than not."""
    while True:
        schema = some_schema(random)
        if schema.flag_places:
            return (schema, *some_telling_book(random, schema, 2))


def many_lacking(rows):
    return sum(flags.count(None) for table in rows for _, flags in rows[table])


class FactsTest(unittest.TestCase):
    def test_what_rows_are_is_left_and_what_is_left_is_in_some_data(self):
        random = Random(1)
        seen = {}
        for turn in range(200):
            schema = some_schema(random)
            book = some_book(random, schema)
            rows = some_rows(random, schema)
            left = {table: kinds_left(schema, book, table) for table in schema.tables}
            if keeps(schema, book, rows):
                for table in schema.tables:
                    for index in range(len(rows[table])):
                        self.assertIn(view_on(schema, book, rows, table, index), left[table])
                        seen["data"] = True
            for table in schema.tables:
                for row_kind in row_kinds(schema, book, table):
                    found = rows_with(schema, book, row_kind)
                    self.assertEqual(found is not None, row_kind in left[table])
                    if found:
                        self.assertTrue(keeps(schema, book, found[0]))
                        self.assertEqual(view_on(schema, book, found[0], table, found[1]), row_kind)
                    seen[found is None] = True
        self.assertEqual(set(seen), {"data", False, True})

    def test_rows_of_fillings_are_never_struck(self):
        random = Random(2)
        seen = {}
        for _ in range(300):
            schema, book, lacking = some_flagged(random)
            rows = bare(schema, some_rows(random, schema), lacking)
            if many_lacking(rows) > 6:
                continue
            found = fillings(schema, book, lacking, rows)
            never = candidates(schema, book, lacking, rows, last_round(schema, book, lacking, rows))
            for table in schema.tables:
                for index, own in enumerate(never[table]):
                    views = [view_on(schema, book, filled, table, index) for filled in found]
                    self.assertTrue(all(view in own for view in views))
                    # One that is never struck need not be that of the row in a filling.
                    seen[all(row_kind in views for row_kind in own)] = True
        self.assertEqual(set(seen), {False, True})

    def test_flags_are_told_if_no_pair_is_left_that_differs(self):
        random = Random(3)
        seen = {}
        for _ in range(150):
            schema, book, lacking = some_flagged(random)
            for table, flag in lacking:
                at = schema.flags(table).index(flag)
                differ = any(one[1][at] != other[1][at] for one, other in pairs_left(schema, book, lacking, table))
                told = is_told(schema, book, lacking, table, flag)
                self.assertIs(told, not differ)
                found = data_apart(schema, book, lacking, table, flag)
                self.assertEqual(found is None, told)
                seen[told] = True
        self.assertEqual(set(seen), {False, True})

    def test_the_number_of_rounds_is_the_least_one(self):
        random = Random(4)
        seen = {}
        for _ in range(150):
            schema, book, lacking = some_flagged(random)
            rows = bare(schema, some_rows(random, schema), lacking)
            has_filling = many_lacking(rows) <= 6 and sure(schema, book, lacking, rows) is not None
            for (table, flag), needed in levels(schema, book, lacking).items():
                if needed is None:
                    continue
                at = schema.flags(table).index(flag)
                if has_filling:
                    told = worked_out(schema, book, lacking, rows, needed)[table]
                    self.assertFalse(any(flags[at] is None for _, flags in told))
                for number in range(needed):
                    self.check_fewer(schema, book, lacking, table, flag, number)
                    seen[number] = True
        self.assertTrue({0, 1} <= set(seen))

    def check_fewer(self, schema, book, lacking, table, flag, number):
        """Check that fewer rounds than are needed do not tell a flag, and neither does what is so near."""
        at = schema.flags(table).index(flag)
        rows, index = data_behind(schema, book, lacking, table, flag, number)
        self.assertTrue(keeps(schema, book, rows))
        self.assertIsNone(worked_out(schema, book, lacking, bare(schema, rows, lacking), number)[table][index][1][at])
        rows, others, index = data_near(schema, book, lacking, table, flag, number)
        self.assertTrue(keeps(schema, book, rows) and keeps(schema, book, others))
        self.assertNotEqual(rows[table][index][1][at], others[table][index][1][at])
        near = [cut_out(schema, bare(schema, data, lacking), table, index, number) for data in (rows, others)]
        self.assertEqual(near[0], near[1])

    def test_books_that_have_the_same_data_have_the_same_numbers(self):
        random = Random(5)
        written_anew = {}
        for _ in range(200):
            schema, book, lacking = some_flagged(random)
            other = self.written_anew(random, schema, book)
            if len(other) <= 6 and len(Plain(schema, book + other).looks) <= 3:
                self.assertTrue(are_alike(schema, book, other))
                self.assertEqual(levels(schema, book, lacking), levels(schema, other, lacking))
                for table in schema.tables:
                    self.assertEqual(bool(kinds_left(schema, book, table)), bool(kinds_left(schema, other, table)))
                written_anew[len(book), len(other), len(looks(schema, book)), len(looks(schema, other))] = True
        self.assertGreater(len(written_anew), 10)

    def written_anew(self, random, schema, book):
        """Return a book with the same data."""
        found = []
        for table, condition in book:
            if condition[0] == "and":
                found += [(table, condition[2]), (table, condition[1])]
            elif condition[0] == "or" and random.random() < 0.5:
                found.append((table, ("not", ("and", ("not", condition[2]), ("not", condition[1])))))
            else:
                found.append((table, ("not", ("not", condition))))
        table = random.choice(schema.tables)
        more = some_condition(random, schema, table, 2)
        if len(Plain(schema, book + [(table, more)]).looks) <= 3:
            found.append((table, more if follows(schema, book, table, more) else ("or", more, ("yes",))))
        random.shuffle(found)
        return found

    def test_what_all_fillings_have_in_common_need_not_be_worked_out(self):
        random = Random(6)
        found = 0
        for _ in range(1500):
            schema, book, lacking = some_flagged(random)
            if random.random() < 0.3:
                book = some_book(random, schema, 3, 2)
            rows = bare(schema, some_rows(random, schema), lacking)
            if many_lacking(rows) <= 6:
                found += self.check_common(schema, book, lacking, rows)
        self.assertGreater(found, 0)

    def check_common(self, schema, book, lacking, rows):
        """Check that what is worked out is what all fillings have in common; return whether some is not worked out."""
        common = sure(schema, book, lacking, rows)
        if common is None:
            return False
        told = worked_out(schema, book, lacking, rows, last_round(schema, book, lacking, rows))
        more = False
        for table in schema.tables:
            for one, other in zip(told[table], common[table]):
                self.assertTrue(all(flag in (None, known) for flag, known in zip(one[1], other[1])))
                more = more or one != other
        return more

    def test_more_kept_flags_and_more_rules_tell_no_less(self):
        random = Random(7)
        for _ in range(100):
            schema, book, lacking = some_flagged(random)
            table = random.choice(schema.tables)
            more = book + [(table, some_condition(random, schema, table, 1))]
            for place in lacking:
                if is_told(schema, book, lacking, *place):
                    self.assertTrue(is_told(schema, more, lacking, *place))
                    fewer = [other for other in lacking if other == place or random.random() < 0.5]
                    self.assertTrue(is_told(schema, book, fewer, *place))
            kept = [place for place in schema.flag_places if place not in lacking]
            if do_tell(schema, book, kept):
                self.assertTrue(do_tell(schema, book, kept + lacking[:1]))
                self.assertTrue(do_tell(schema, more, kept))

    def test_least_lists_hold_an_item_outside_each_greatest_list(self):
        random = Random(8)
        for _ in range(60):
            schema, book, lacking = some_flagged(random)
            if len(schema.flag_places) > 4:
                continue
            self.check_lists(schema.flag_places, least_tellers(schema, book), greatest_mutes(schema, book))
            for place in lacking:
                others = [other for other in schema.flag_places if other != place]
                self.check_lists(others, least_for(schema, book, *place), greatest_without(schema, book, *place))
                rules = list(range(len(book)))
                least = least_rules(schema, book, lacking, *place)
                self.check_lists(rules, least, greatest_spoilers(schema, book, lacking, *place))

    def check_lists(self, items, least, greatest):
        outside = [[item for item in items if item not in part] for part in greatest]
        self.assertEqual(least_and_greatest(items, lambda some: all(set(some) & set(part) for part in outside))[0], least)


if __name__ == "__main__":
    unittest.main()
