"""Row kinds that are struck because no data have them, and those that are left."""

from toldbyrest.books import check_book
from toldbyrest.growth import Growth
from toldbyrest.kinds import Kinds


def rounds_of_kinds(schema, book):
    """Return the dict from the row kinds that are struck to the numbers of their rounds."""
    check_book(schema, book)
    kinds = Kinds(schema, book)
    stages = kinds.sieve().stages()
    found = {}
    for number in range(1, len(stages)):
        for table in schema.tables:
            for row_kind in kinds.listed(table, stages[number - 1][table] - stages[number][table]):
                found[row_kind] = number
    return {row_kind: found[row_kind] for row_kind in sorted(found)}


def kinds_left(schema, book, table):
    """Return the ascending list of the row kinds of a table that are left."""
    check_book(schema, book)
    # Asked for its error alone.
    schema.columns(table)
    kinds = Kinds(schema, book)
    return kinds.listed(table, left_of(kinds)[table])


def left_of(kinds):
    """Return for each table the views that are left."""
    return kinds.sieve().stages()[-1]


def rows_with(schema, book, row_kind):
    """Return data and the index of a row that is the row kind there, or None if it is struck."""
    check_book(schema, book)
    kinds = Kinds(schema, book)
    kinds.check_row_kind(row_kind)
    table = row_kind[0]
    left = left_of(kinds)
    if not left[table] & kinds.bit_of(row_kind):
        return None
    growth = Growth(kinds.sieve(), left)
    index = growth.plant(table, kinds.views[table].index(row_kind))
    return ({name: _flagged(kinds, name, growth.rows[name]) for name in schema.tables}, index)


def _flagged(kinds, table, grown):
    """Return rows with the flags of the views that stand in them."""
    return [(values, kinds.views[table][item][1]) for values, item in grown]


def can_have_rows(schema, book, table):
    """Return whether some data have a row in a table."""
    return len(kinds_left(schema, book, table)) > 0
