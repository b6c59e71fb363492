"""Texts: points [2] and [18]."""

import unittest
from copy import deepcopy
from itertools import product
from random import Random

from tests.objects import doubled, nested, objects, same, some_condition
from toldbyrest.conditions import is_condition
from toldbyrest.errors import ParseError, UnknownTable
from toldbyrest.schemas import Schema
from toldbyrest.texts import format_book, format_condition, format_schema, parse_book, parse_condition, parse_schema

TABLES = {
    "town": ((("id", "town"), ("of", "town"), ("in", "land")), ("old", "busy")),
    "shop": ((("at", "town"),), ("open",)),
    "land": ((("id", "land"),), ()),
}
SCHEMA = Schema(TABLES)
YES = ("yes",)
OLD = ("flag", "old")
ABOVE = ("has", "of", "town", "id", OLD)

# Conditions of the table town, and their texts.
CONDITIONS = [
    (YES, "yes"),
    (OLD, "flag old"),
    (("not", YES), "not yes"),
    (("not", ("not", OLD)), "not not flag old"),
    (("and", OLD, YES), "and flag old yes"),
    (("or", YES, ("flag", "busy")), "or yes flag busy"),
    (ABOVE, "has of town id flag old"),
    (("has", "in", "land", "id", ("has", "id", "town", "in", OLD)), "has in land id has id town in flag old"),
    (("has", "id", "shop", "at", ("flag", "open")), "has id shop at flag open"),
    (("and", ("or", OLD, YES), ("not", ABOVE)), "and or flag old yes not has of town id flag old"),
    (("and", OLD, ("or", YES, ("not", ABOVE))), "and flag old or yes not has of town id flag old"),
    (("and", ("not", OLD), YES), "and not flag old yes"),
    (("not", ("and", OLD, YES)), "not and flag old yes"),
    (("or", ("has", "id", "shop", "at", ("and", YES, ("flag", "open"))), OLD),
     "or has id shop at and yes flag open flag old"),
]

NO_CONDITIONS = [
    "", " ", "  ", "\n", "\t", "no", "Yes", "YES", "yes ", " yes", "yes\n", "\nyes", "yes yes", "yes\nyes", "yes\t",
    "flag", "flag ", "flag open", "flag id", "flag town", "flag  old", "flag old ", " flag old", "flag old old",
    "flag\told", "flag\nold", "flag old\n", "flag old yes", "old", "flag flag", "flag yes", "Flag old", "flag Old",
    "not", "not ", "not  yes", "not yes yes", "not flag", "not flag open", "not no", "notyes", "not(yes)",
    "and", "and yes", "and yes ", "and yes  yes", "and yes yes yes", "and yes flag open", "and flag open yes",
    "or", "or yes", "or yes no", "or no yes", "or yes yes yes", "yes and yes", "yes or yes", "and, yes, yes",
    "has", "has of", "has of town", "has of town id", "has of town id ", "has of town id flag open",
    "has of  town id yes", "has of town id yes ", "has of town id yes yes", "has at town id yes", "has of sea id yes",
    "has of town at yes", "has in town id yes", "has of town in yes", "has of town old yes", "has old town id yes",
    "has yes yes yes yes", "has of shop at flag old", "has in land id flag old", "town yes", "('yes',)", "-",
]


def condition_of(text, table="town"):
    """Parse a text as that of a condition of a table."""
    return parse_condition(SCHEMA, table, text)


class TextsTest(unittest.TestCase):
    def assert_line(self, line, call, *arguments):
        """Assert that a call raises ParseError with a line."""
        with self.assertRaises(ParseError) as caught:
            call(*arguments)
        self.assertIs(type(caught.exception), ParseError)
        self.assertTrue(same(caught.exception.line, line), (caught.exception.line, line, arguments[-1]))


class ConditionTextsTest(TextsTest):
    def test_texts(self):
        for condition, text in CONDITIONS:
            with self.subTest(text):
                self.assertEqual(format_condition(condition), text)
                self.assertEqual(condition_of(text), condition)
                self.assertEqual(condition_of("not " + text), ("not", condition))
                self.assertEqual(condition_of("has at town of " + text, "shop"), ("has", "at", "town", "of", condition))

    def test_no_texts(self):
        for text in NO_CONDITIONS:
            with self.subTest(text):
                self.assert_line(0, condition_of, text)
                self.assert_line(0, condition_of, "not " + text)
                self.assert_line(0, condition_of, "and yes " + text)
                self.assert_line(0, condition_of, "has of town id " + text)

    def test_of_which_table(self):
        self.assertEqual(condition_of("flag open", "shop"), ("flag", "open"))
        self.assert_line(0, condition_of, "flag open", "town")
        self.assert_line(0, condition_of, "flag old", "land")
        self.assertEqual(condition_of("has id land id yes", "land"), ("has", "id", "land", "id", YES))
        self.assert_line(0, condition_of, "has id land id yes", "town")
        both = "and has id town in flag old has id town in flag busy"
        self.assertEqual(format_condition(condition_of(both, "land")), both)
        self.assert_line(0, condition_of, "and has id town in flag old flag busy", "land")

    def test_each_order_of_a_few_words(self):
        schema = Schema({"a": ((("i", "k"),), ("f",))})
        found = {1: [YES], 2: [("flag", "f")]}
        for many in range(1, 6):
            found.setdefault(many, [])
            found[many] += [("not", part) for part in found.get(many - 1, [])]
            found[many] += [("has", "i", "a", "i", part) for part in found.get(many - 4, [])]
            for first in range(1, many - 1):
                for word, one, two in product(("and", "or"), found[first], found[many - 1 - first]):
                    found[many].append((word, one, two))
        texts = {format_condition(condition): condition for conditions in found.values() for condition in conditions}
        self.assertEqual(len(texts), sum(len(conditions) for conditions in found.values()))
        words = ["yes", "flag", "f", "has", "i", "a", "not", "and", "or"]
        for many in range(1, 6):
            for chosen in product(words, repeat=many):
                text = " ".join(chosen)
                try:
                    self.assertEqual(parse_condition(schema, "a", text), texts[text])
                except ParseError as error:
                    self.assertNotIn(text, texts)
                    self.assertEqual(error.line, 0)

    def test_sixteen_levels(self):
        chain = nested(15, lambda part: ("has", "of", "town", "id", part), OLD)
        self.assertEqual(format_condition(chain), "has of town id " * 15 + "flag old")
        crowd = doubled(16, "and", YES)
        self.assertEqual(format_condition(crowd).split(" ").count("yes"), 2 ** 15)
        left = nested(15, lambda part: ("or", part, YES), OLD)
        right = nested(15, lambda part: ("or", YES, part), OLD)
        for condition in (chain, crowd, left, right, doubled(16, "or", OLD), nested(15, lambda part: ("not", part), YES)):
            text = format_condition(condition)
            self.assertEqual(condition_of(text), condition)
            self.assert_line(0, condition_of, text + " yes")
            self.assert_line(0, condition_of, text[:-1])
            self.assert_line(0, condition_of, "not" + text)

    def test_many_words_that_are_no_condition(self):
        for word in ("not ", "and ", "has of town id ", "or yes "):
            for end in ("", "nay", "flag open", "yes yes"):
                self.assert_line(0, condition_of, word * 20000 + end)
        self.assert_line(0, condition_of, "yes " * 20000)
        self.assert_line(0, condition_of, " " * 20000)

    def test_read_back_at_random(self):
        random = Random(18)
        for _ in range(500):
            table = random.choice(SCHEMA.tables)
            condition = some_condition(random, SCHEMA, table, 8)
            text = format_condition(condition)
            self.assertEqual(parse_condition(SCHEMA, table, text), condition)

    def test_spoiled_texts_at_random(self):
        random = Random(81)
        words = "yes flag has not and or old busy open id of in at town shop land".split() + [""]
        kept = 0
        for _ in range(3000):
            table = random.choice(SCHEMA.tables)
            parts = format_condition(some_condition(random, SCHEMA, table, 4)).split(" ")
            at = random.randrange(len(parts) + 1)
            parts[at:at + random.randrange(2)] = [random.choice(words)] * random.randrange(2)
            text = " ".join(parts)
            try:
                condition = parse_condition(SCHEMA, table, text)
            except ParseError as error:
                self.assertEqual(error.line, 0)
            else:
                kept += 1
                self.assertTrue(is_condition(SCHEMA, table, condition))
                self.assertEqual(format_condition(condition), text)
        self.assertGreater(kept, 100)

    def test_any_objects(self):
        for thing in objects():
            with self.subTest(repr(thing)[:60]):
                self.assertRaises(UnknownTable, parse_condition, SCHEMA, thing, "yes")
                self.assertRaises(UnknownTable, parse_condition, SCHEMA, thing, thing)
                if thing == "yes":
                    self.assertEqual(condition_of(thing), YES)
                else:
                    self.assert_line(0, condition_of, thing)
        self.assert_line(0, condition_of, YES)
        self.assert_line(0, condition_of, ["yes"])

    def test_unknown_table_comes_first(self):
        for text in (None, "", "nay", 7, ["yes"], "yes"):
            self.assertRaises(UnknownTable, parse_condition, SCHEMA, "sea", text)
            self.assertRaises(UnknownTable, parse_condition, SCHEMA, ["town"], text)
            self.assertRaises(UnknownTable, parse_condition, SCHEMA, "id", text)

    def test_by_name(self):
        self.assertEqual(format_condition(condition=OLD), "flag old")
        self.assertEqual(parse_condition(text="flag old", table="town", schema=SCHEMA), OLD)


class BookTextsTest(TextsTest):
    rules = [("town", condition) for condition, _ in CONDITIONS]
    lines = ["town " + text for _, text in CONDITIONS]

    def book_of(self, text):
        return parse_book(SCHEMA, text)

    def test_texts(self):
        book = [("shop", ("has", "at", "town", "id", YES)), ("town", ("not", OLD)), ("land", YES), ("town", ("not", OLD))]
        text = "shop has at town id yes\ntown not flag old\nland yes\ntown not flag old"
        self.assertEqual(format_book(book), text)
        self.assertEqual(self.book_of(text), book)

    def test_up_to_six_rules(self):
        for many in range(7):
            for first in range(len(self.rules) - many + 1):
                text = "\n".join(self.lines[first:first + many])
                self.assertEqual(format_book(self.rules[first:first + many]), text)
                self.assertTrue(same(self.book_of(text), self.rules[first:first + many]))
        self.assertEqual(self.book_of("\n".join(["town yes"] * 6)), [("town", YES)] * 6)

    def test_the_empty_book(self):
        self.assertEqual(format_book([]), "")
        self.assertTrue(same(self.book_of(""), []))

    def test_more_than_six_rules(self):
        self.assert_line(7, self.book_of, "\n".join(self.lines[:7]))
        self.assert_line(7, self.book_of, "\n".join(["land yes"] * 7))
        self.assert_line(14, self.book_of, "\n".join(self.lines))
        self.assert_line(3000, self.book_of, "\n".join(["land yes"] * 3000))

    def test_the_first_line_that_is_none(self):
        for many in range(9):
            for at in range(many):
                for wrong in ("sea yes", "town", "", "shop flag old", "town yes "):
                    lines = ["town yes"] * many
                    lines[at] = wrong
                    if lines != [""]:
                        self.assert_line(at, self.book_of, "\n".join(lines))
                    lines[at:] = [wrong] * (many - at)
                    if lines != [""]:
                        self.assert_line(at, self.book_of, "\n".join(lines))

    def test_lines_that_are_none_count_ahead_of_too_many(self):
        self.assert_line(6, self.book_of, "\n".join(["town yes"] * 6 + ["town no"]))
        self.assert_line(7, self.book_of, "\n".join(["town yes"] * 7 + ["town no"]))
        self.assert_line(9, self.book_of, "\n".join(["town yes"] * 9 + [""]))

    def test_no_lines(self):
        wrong = [
            " ", "yes", "town", "town ", " town yes", "town  yes", "town yes ", "town\tyes", "sea yes", "Town yes",
            "town town yes", "town.yes", "town: yes", "town, yes", "flag old", "id yes", "shop flag old", "-",
            "table town", "('town', ('yes',))",
        ]
        wrong += ["town " + text for text in NO_CONDITIONS if "\n" not in text]
        for line in wrong:
            with self.subTest(line):
                self.assert_line(0, self.book_of, line)
                self.assert_line(1, self.book_of, "town yes\n" + line)
                self.assert_line(1, self.book_of, "town yes\n" + line + "\nsea yes")

    def test_line_feeds_and_empty_lines(self):
        self.assert_line(0, self.book_of, "\n")
        self.assert_line(0, self.book_of, "\n\n\n")
        self.assert_line(0, self.book_of, "\ntown yes")
        self.assert_line(1, self.book_of, "town yes\n")
        self.assert_line(1, self.book_of, "town yes\n\ntown yes")
        self.assert_line(2, self.book_of, "town yes\ntown yes\n")
        self.assert_line(6, self.book_of, "\n".join(["town yes"] * 6) + "\n")
        self.assert_line(0, self.book_of, "town\nyes")
        self.assert_line(0, self.book_of, "town not\nyes")

    def test_six_rules_of_sixteen_levels(self):
        chain = nested(15, lambda part: ("has", "of", "town", "id", part), OLD)
        book = [("town", doubled(16, "and", OLD)), ("town", chain), ("town", nested(15, lambda part: ("not", part), YES))] * 2
        text = format_book(book)
        self.assertEqual(self.book_of(text), book)
        self.assert_line(5, self.book_of, text + " yes")

    def test_read_back_at_random(self):
        random = Random(19)
        for _ in range(200):
            tables = [random.choice(SCHEMA.tables) for _ in range(random.randrange(7))]
            book = [(table, some_condition(random, SCHEMA, table, 6)) for table in tables]
            self.assertEqual(self.book_of(format_book(book)), book)

    def test_any_object(self):
        for thing in objects():
            with self.subTest(repr(thing)[:60]):
                if thing == "":
                    self.assertEqual(self.book_of(thing), [])
                else:
                    self.assert_line(0, self.book_of, thing)
        for thing in ([("town", YES)], ["town yes"], ("town yes",), "town yes".split(), {"town": "yes"}, []):
            self.assert_line(0, self.book_of, thing)

    def test_by_name_new_and_argument_kept(self):
        book = [("town", ABOVE), ("shop", YES)]
        before = deepcopy(book)
        text = format_book(book=book)
        found = parse_book(text=text, schema=SCHEMA)
        self.assertTrue(same(found, before))
        found.clear()
        self.book_of("").append(1)
        self.assertTrue(same(self.book_of(text), before))
        self.assertTrue(same(self.book_of(""), []))
        self.assertTrue(same(book, before))


def all_tables(columns, flags):
    """Return what a table can be that has some of these columns and flags, each once."""
    return [
        (some, others)
        for some in [(one,) for one in columns] + [(one, two) for one, two in product(columns, repeat=2) if one != two]
        for others in [()] + [(one,) for one in flags] + [(one, two) for one, two in product(flags, repeat=2) if one != two]
    ]


class SchemaTextsTest(TextsTest):
    lines = [
        "table land", "column id land", "table shop", "column at town", "flag open",
        "table town", "column id town", "column of town", "column in land", "flag old", "flag busy",
    ]
    text = "\n".join(lines)

    def test_texts(self):
        self.assertEqual(format_schema(SCHEMA), self.text)
        self.assertEqual(parse_schema(self.text), SCHEMA)
        self.assertEqual(format_schema(Schema({"a": ((("b", "c"),), ())})), "table a\ncolumn b c")
        self.assertEqual(parse_schema("table a\ncolumn b c"), Schema({"a": ((("b", "c"),), ())}))
        self.assertEqual(parse_schema("table a\ncolumn b c\nflag d"), Schema({"a": ((("b", "c"),), ("d",))}))

    def test_tables_ascend_and_the_others_stand_in_order(self):
        tables = {"b": ((("z", "k"), ("a", "k")), ("y", "c")), "a": ((("z", "k"),), ())}
        text = "table a\ncolumn z k\ntable b\ncolumn z k\ncolumn a k\nflag y\nflag c"
        self.assertEqual(format_schema(Schema(tables)), text)
        self.assertEqual(parse_schema(text), Schema(tables))
        self.assertNotEqual(parse_schema(text.replace("flag y\nflag c", "flag c\nflag y")), Schema(tables))
        self.assertNotEqual(parse_schema(text.replace("z k\ncolumn a k", "a k\ncolumn z k")), Schema(tables))

    def test_names_that_are_the_first_words(self):
        schema = Schema({"table": ((("column", "table"), ("table", "column")), ()), "column": ((("table", "table"),), ())})
        text = format_schema(schema)
        self.assertEqual(text, "table column\ncolumn table table\ntable table\ncolumn column table\ncolumn table column")
        self.assertEqual(parse_schema(text), schema)

    def test_the_widest_schema(self):
        table = ((("abcdefgh", "abcdefgh"), ("b", "k"), ("c", "l")), ("d", "e", "f"))
        schema = Schema({name: table for name in ("a", "b", "c", "zzzzzzzz")})
        self.assertEqual(parse_schema(format_schema(schema)), schema)
        self.assertEqual(len(format_schema(schema).split("\n")), 28)

    def test_each_order_of_a_few_lines(self):
        columns, flags = [("i", "k"), ("f", "k")], ["f", "g"]
        parts = all_tables(columns, flags)
        tables = [{"a": one} for one in parts] + [{"b": one} for one in parts]
        tables += [{"a": one, "b": two} for one, two in product(parts, repeat=2)]
        schemas = {}
        for held in tables:
            if all(not set(name for name, _ in some) & set(others) for some, others in held.values()):
                schemas[format_schema(Schema(held))] = Schema(held)
        lines = ["table a", "table b", "column i k", "column f k", "flag f", "flag g"]
        found = 0
        for many in range(1, 6):
            for chosen in product(lines, repeat=many):
                text = "\n".join(chosen)
                if text in schemas:
                    found += 1
                    self.assertEqual(parse_schema(text), schemas[text])
                else:
                    self.assert_line(many, parse_schema, text)
        self.assertGreater(found, 20)

    def test_lines_in_another_order(self):
        for at in range(len(self.lines) - 1):
            lines = list(self.lines)
            lines[at], lines[at + 1] = lines[at + 1], lines[at]
            with self.subTest(lines):
                if at in (6, 7, 9):
                    self.assertNotEqual(parse_schema("\n".join(lines)), SCHEMA)
                else:
                    self.assert_line(11, parse_schema, "\n".join(lines))
        self.assert_line(11, parse_schema, "\n".join(self.lines[5:] + self.lines[:5]))

    def test_lines_that_make_no_schema(self):
        for text in [
            "table a", "column a b", "flag a", "table a\nflag b", "table a\ntable b\ncolumn i k", "flag a\nflag a",
            "table a\ncolumn i k\ntable b", "table a\ncolumn i k\ncolumn i k", "table a\ncolumn i k\ncolumn i l",
            "table a\ncolumn i k\nflag i", "table a\ncolumn i k\nflag f\nflag f", "table a\ncolumn i k\ntable a",
            "table a\ncolumn i k\ntable a\ncolumn i k", "table a\ncolumn i k\ntable a\ncolumn j k", "flag f\ntable a\ncolumn i k",
            "column i k\ntable a", "column j k\ntable a\ncolumn i k", "table a\nflag f\ncolumn i k",
            "table a\ncolumn i k\nflag f\ncolumn j k", "table b\ncolumn i k\ntable a\ncolumn i k",
            "table a\ncolumn a k\ncolumn b k\ncolumn c k\ncolumn d k",
            "table a\ncolumn i k\nflag f\nflag g\nflag h\nflag j",
            "\n".join(f"table {name}\ncolumn i k" for name in "abcde"),
        ]:
            with self.subTest(text):
                self.assert_line(len(text.split("\n")), parse_schema, text)

    def test_lines_of_another_form(self):
        wrong = [
            "", " ", "table", "table ", "table a b", "table  a", " table a", "table a ", "table\ta", "Table a", "table A",
            "table abcdefghi", "table and", "table flag", "table yes", "table a1", "tables a", "column", "column i", "column i ",
            "column i k l", "column i  k", "column  i k", " column i k", "column i k ", "column or k", "column i not",
            "column I k", "columns i k", "flag", "flag ", "flag f g", " flag f", "flag f ", "flag  f", "flag flag", "flag F",
            "flag 1", "i k", "yes", "and a", "not", "a", "table,a", "shop yes",
        ]
        for line in wrong:
            with self.subTest(line):
                self.assert_line(0, parse_schema, line)
                self.assert_line(0, parse_schema, line + "\n" + self.text)
                self.assert_line(11, parse_schema, self.text + "\n" + line)
                self.assert_line(11, parse_schema, self.text + "\n" + line + "\n" + "no line")
                for at in range(11):
                    text = "\n".join(self.lines[:at] + [line] + self.lines[at:])
                    self.assert_line(at, parse_schema, text)

    def test_lines_of_another_form_count_ahead_of_and_behind_lines_that_make_nothing(self):
        self.assert_line(3, parse_schema, "flag a\nflag a\ntable b\ntable\ncolumn i k")
        self.assert_line(2, parse_schema, "table a\ntable a\nnone\nnone")
        self.assert_line(1, parse_schema, "table a\nnone\ntable a\ntable a")
        self.assert_line(5, parse_schema, "\n".join(["table a"] * 5 + [""]))
        self.assert_line(40, parse_schema, "\n".join(["column i k"] * 40 + ["column i"]))
        self.assert_line(40, parse_schema, "\n".join(["column i k"] * 40))

    def test_line_feeds_and_empty_lines(self):
        self.assert_line(0, parse_schema, "")
        self.assert_line(0, parse_schema, "\n")
        self.assert_line(0, parse_schema, "\n" + self.text)
        self.assert_line(11, parse_schema, self.text + "\n")
        self.assert_line(1, parse_schema, self.text.replace("\n", "\n\n"))
        self.assert_line(0, parse_schema, self.text.replace("\n", " "))

    def test_many_lines(self):
        self.assert_line(20000, parse_schema, "\n".join(["table a"] * 20000))
        self.assert_line(20001, parse_schema, "\n".join(["table a"] + ["flag f"] * 20000))
        self.assert_line(0, parse_schema, "table " * 20000)

    def test_any_object(self):
        for thing in objects():
            with self.subTest(repr(thing)[:60]):
                self.assert_line(0, parse_schema, thing)
        for thing in (TABLES, list(TABLES), SCHEMA, self.lines, ("table a", "column b c")):
            self.assert_line(0, parse_schema, thing)

    def test_by_name_and_argument_kept(self):
        schema = Schema(TABLES)
        self.assertEqual(format_schema(schema=schema), self.text)
        self.assertEqual(parse_schema(text=self.text), schema)
        self.assertEqual(schema, Schema(TABLES))


if __name__ == "__main__":
    unittest.main()
