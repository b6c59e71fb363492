"""Books of rules, and the rows that break them."""

from toldbyrest.conditions import Judge, is_condition
from toldbyrest.errors import InvalidBook
from toldbyrest.rows import check_rows

MOST_RULES = 6


def is_rule(schema, thing):
    """Return whether a thing is a rule of a schema."""
    if not isinstance(thing, tuple) or len(thing) != 2:
        return False
    table, condition = thing
    return table in schema.tables and is_condition(schema, table, condition)


def is_book(schema, thing):
    """Return whether a thing is a book of a schema."""
    if not isinstance(thing, list) or len(thing) > MOST_RULES:
        return False
    return all([is_rule(schema, rule) for rule in thing])


def check_book(schema, book):
    """Raise InvalidBook for what is no book of the schema."""
    if not is_book(schema, book):
        raise InvalidBook("this is no book of the schema")


def broken(schema, book, rows):
    """Return the ascending list of the tuples (index of a rule, index of a row) of broken rules."""
    check_book(schema, book)
    check_rows(schema, rows)
    judge = Judge(schema, rows, 1)
    found = []
    for number, (table, condition) in enumerate(book):
        answers = judge.answers(table, condition)
        found.extend([(number, index) for index, answer in enumerate(answers) if answer == 0])
    return found


def keeps(schema, book, rows):
    """Return whether no row breaks a rule."""
    return not broken(schema, book, rows)
