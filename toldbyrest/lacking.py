"""Lacking flags, bare rows, and what a filling of bare rows is."""

from toldbyrest.books import check_book, keeps
from toldbyrest.errors import InvalidLacking, InvalidRows
from toldbyrest.rows import are_rows, are_rows_with, check_rows


def is_lacking(schema, thing):
    """Return whether a thing is lacking flags of a schema."""
    if not isinstance(thing, list):
        return False
    places = schema.flag_places
    return all([place in places for place in thing]) and len(set(thing)) == len(thing)


def check_lacking(schema, lacking):
    """Raise InvalidLacking for what is no lacking flags of the schema."""
    if not is_lacking(schema, lacking):
        raise InvalidLacking("these are no lacking flags of the schema")


def check_book_and_lacking(schema, book, lacking):
    """Raise InvalidBook, or InvalidLacking for what is no lacking flags of the schema."""
    check_book(schema, book)
    check_lacking(schema, lacking)


def bare(schema, rows, lacking):
    """Return the rows with None in the place of each lacking flag."""
    check_rows(schema, rows)
    check_lacking(schema, lacking)
    return {table: _bare_rows_of(schema, table, rows[table], lacking) for table in schema.tables}


def _bare_rows_of(schema, table, table_rows, lacking):
    lacks = [(table, flag) in lacking for flag in schema.flags(table)]
    return [(values, _bare_flags(flags, lacks)) for values, flags in table_rows]


def _bare_flags(flags, lacks):
    return tuple([None if lack else flag for flag, lack in zip(flags, lacks)])


def are_bare(schema, lacking, thing):
    """Return whether a thing is bare rows of a schema with these lacking flags."""
    check_lacking(schema, lacking)
    return are_rows_with(schema, thing, lambda place, flag: _is_bare_flag(flag, place in lacking))


def _is_bare_flag(thing, lacks):
    return thing is None if lacks else isinstance(thing, bool)


def check_bare(schema, book, lacking, rows):
    """Raise InvalidBook, InvalidLacking, or InvalidRows for what is no bare rows."""
    check_book(schema, book)
    if not are_bare(schema, lacking, rows):
        raise InvalidRows("these are no bare rows with these lacking flags")


def is_filling(schema, book, lacking, rows, thing):
    """Return whether a thing is a filling of bare rows."""
    check_bare(schema, book, lacking, rows)
    if not are_rows(schema, thing):
        return False
    return bare(schema, thing, lacking) == rows and keeps(schema, book, thing)
