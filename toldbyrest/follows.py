"""What follows from a book: what all rows of all its data meet."""

from toldbyrest.bits import some_number
from toldbyrest.books import check_book
from toldbyrest.conditions import check_condition
from toldbyrest.kinds import Kinds
from toldbyrest.left import flagged, growth_of, left_of


def follows(schema, book, table, condition):
    """Return whether a condition of a table follows from a book."""
    check_book(schema, book)
    check_condition(schema, table, condition)
    return not _against(kinds_beside(schema, book, [(table, condition)]), table, condition)


def data_against(schema, book, table, condition):
    """Return data and the index of a row that does not meet a condition, or None if it follows from the book."""
    check_book(schema, book)
    check_condition(schema, table, condition)
    kinds = kinds_beside(schema, book, [(table, condition)])
    against = _against(kinds, table, condition)
    if not against:
        return None
    growth = growth_of(kinds, left_of(kinds), 0)
    index = growth.plant(table, some_number(against))
    return (flagged(kinds, growth), index)


def needless(schema, book):
    """Return the ascending list of the indexes of the rules that follow from the other rules."""
    check_book(schema, book)
    return [index for index in range(len(book)) if _all_follow(schema, book[:index] + book[index + 1:], [book[index]])]


def are_alike(schema, one, other):
    """Return whether two books have the same data."""
    check_book(schema, one)
    check_book(schema, other)
    return _all_follow(schema, one, other) and _all_follow(schema, other, one)


def _all_follow(schema, book, rules):
    """Return whether the conditions of some rules follow from a book."""
    kinds = kinds_beside(schema, book, rules)
    return not any([_against(kinds, table, condition) for table, condition in rules])


def kinds_beside(schema, book, rules):
    """Return the row kinds of a book, with answers to the looks of some rules, too, that need not be kept."""
    return Kinds(schema, book + [(table, ("or", ("yes",), condition)) for table, condition in rules])


def _against(kinds, table, condition):
    """Return the views of a table that are left and do not meet a condition."""
    return left_of(kinds)[table] & ~kinds.bits_meeting(table, condition)
