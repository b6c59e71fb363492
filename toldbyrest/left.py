"""Row kinds that are struck because no data have them, and those that are left."""

from toldbyrest.bits import numbers_of
from toldbyrest.books import check_book
from toldbyrest.growth import Growth
from toldbyrest.kinds import Kinds
from toldbyrest.sieves import rounds_of


def rounds_of_kinds(schema, book):
    """Return the dict from the row kinds that are struck to the numbers of their rounds."""
    check_book(schema, book)
    kinds = Kinds(schema, book)
    return rounds_of(kinds, kinds.sieve.stages())


def kinds_left(schema, book, table):
    """Return the ascending list of the row kinds of a table that are left."""
    check_book(schema, book)
    # Asked for its error alone.
    schema.columns(table)
    kinds = Kinds(schema, book)
    return kinds.listed(table, left_of(kinds)[table])


def left_of(kinds):
    """Return for each table the views that are left."""
    return kinds.sieve.stages()[-1]


def rows_with(schema, book, row_kind):
    """Return data and the index of a row that is the row kind there, or None if it is struck."""
    check_book(schema, book)
    kinds = Kinds(schema, book)
    kinds.check_row_kind(row_kind)
    table = row_kind[0]
    left = left_of(kinds)
    if not left[table] & kinds.bit_of(row_kind):
        return None
    growth = growth_of(kinds, left, 0)
    index = growth.plant(table, kinds.number_of(row_kind))
    return (flagged(kinds, growth), index)


def by_kept_flags(kinds, left, lacking, table):
    """Return the dict from the kept flags of a table's views that are left to those that have them."""
    keeps = [(table, flag) not in lacking for flag in kinds.schema.flags(table)]
    found = {}
    for number in numbers_of(left[table]):
        kept = tuple([flag for flag, keep in zip(kinds.views[table][number][1], keeps) if keep])
        found[kept] = found.get(kept, 0) | 1 << number
    return found


def growth_of(kinds, left, least_value):
    """Return a growth of rows that are row kinds that are left."""
    return Growth(kinds.sieve, [(kinds.sieve.all_possible(left), left)], least_value)


def flagged(kinds, growth):
    """Return the rows of such a growth, with the flags of the row kinds."""
    return {
        table: [(values, kinds.views[table][item][1]) for values, item in growth.grown[table]]
        for table in kinds.schema.tables
    }


def can_have_rows(schema, book, table):
    """Return whether some data have a row in a table."""
    return len(kinds_left(schema, book, table)) > 0
