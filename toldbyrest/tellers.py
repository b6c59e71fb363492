"""Lists of flags that tell all others."""

from toldbyrest.books import check_book
from toldbyrest.errors import InvalidKept
from toldbyrest.kinds import Kinds
from toldbyrest.lacking import is_lacking
from toldbyrest.sublists import greatest_wanting, least_enough
from toldbyrest.told import are_told_by


def do_tell(schema, book, kept):
    """Return whether some flags tell all others."""
    check_book(schema, book)
    # Kept flags are what lacking ones are: a list of different flag places.
    if not is_lacking(schema, kept):
        raise InvalidKept("these are no different flag places of the schema")
    return are_told_by(Kinds(schema, book), kept, schema.flag_places)


def least_tellers(schema, book):
    """Return the ascending list of the lists of flag places that tell all others, but none of them without one."""
    check_book(schema, book)
    kinds = Kinds(schema, book)
    return least_enough(schema.flag_places, lambda kept: are_told_by(kinds, kept, schema.flag_places))


def greatest_mutes(schema, book):
    """Return the ascending list of the lists of flag places that do not tell all others, but do with any further."""
    check_book(schema, book)
    kinds = Kinds(schema, book)
    return greatest_wanting(schema.flag_places, lambda kept: are_told_by(kinds, kept, schema.flag_places))
