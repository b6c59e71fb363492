"""Looks of a book: from which rows through which column they go, where they lead and what they ask for."""

from toldbyrest.books import check_book
from toldbyrest.conditions import has_parts


def looks(schema, book):
    """Return the list of the looks of a book, each once, where it begins first."""
    check_book(schema, book)
    return looks_in(book)


def looks_in(book):
    """Return the list of the looks of what is known to be a book."""
    found = []
    for table, condition in book:
        for look in has_parts(table, condition):
            if look not in found:
                found.append(look)
    return found


def own_looks(schema, book, table):
    """Return the ascending list of the indexes of the looks of a table's rows."""
    check_book(schema, book)
    # Asked for its error alone, as the next function asks for the kind of the column.
    schema.columns(table)
    return [index for index, look in enumerate(looks_in(book)) if look[0] == table]


def looks_into(schema, book, table, column):
    """Return the ascending list of the indexes of the looks that lead to a place."""
    check_book(schema, book)
    schema.kind_of(table, column)
    return [index for index, look in enumerate(looks_in(book)) if look[2:4] == (table, column)]


def looks_through(schema, book, kind):
    """Return the ascending list of the indexes of the looks of a kind."""
    check_book(schema, book)
    return [index for index, look in enumerate(looks_in(book)) if look_kind(schema, look) == kind]


def look_kind(schema, look):
    """Return the kind of the columns of a look."""
    return schema.kind_of(look[0], look[1])
