"""Lists of rules that are needed to tell a flag."""

from toldbyrest.pairs import pairs_for
from toldbyrest.sublists import greatest_wanting, least_enough
from toldbyrest.told import check_place, rounds_for


def least_rules(schema, book, lacking, table, flag):
    """Return the ascending list of the lists of rules, by index, that tell a flag, but do not without one of them."""
    check_place(schema, book, lacking, table, flag)
    return least_enough(
        list(range(len(book))), lambda indexes: _do_tell(schema, book, indexes, lacking, (table, flag))
    )


def greatest_spoilers(schema, book, lacking, table, flag):
    """Return the ascending list of the lists of rules, by index, that do not tell a flag, but do with any further."""
    check_place(schema, book, lacking, table, flag)
    return greatest_wanting(
        list(range(len(book))), lambda indexes: _do_tell(schema, book, indexes, lacking, (table, flag))
    )


def _do_tell(schema, book, indexes, lacking, place):
    """Return whether a flag is told in all data of just some rules of a book."""
    return rounds_for(pairs_for(schema, [book[index] for index in indexes], lacking), place) is not None
