"""Lists of flags that tell a single one."""

from toldbyrest.books import check_book
from toldbyrest.kinds import Kinds
from toldbyrest.sublists import greatest_wanting, least_enough
from toldbyrest.told import are_told_by


def least_for(schema, book, table, flag):
    """Return the ascending list of the lists of other flag places that tell a flag, but do not without one of them."""
    others = _others(schema, book, table, flag)
    kinds = Kinds(schema, book)
    return least_enough(others, lambda kept: are_told_by(kinds, kept, [(table, flag)]))


def greatest_without(schema, book, table, flag):
    """Return the ascending list of the lists of other flag places that do not tell a flag, but do with any further."""
    others = _others(schema, book, table, flag)
    kinds = Kinds(schema, book)
    return greatest_wanting(others, lambda kept: are_told_by(kinds, kept, [(table, flag)]))


def _others(schema, book, table, flag):
    """Return the ascending list of all flag places but one."""
    check_book(schema, book)
    # Asked for its errors alone.
    schema.flag_at(table, flag)
    return [place for place in schema.flag_places if place != (table, flag)]
