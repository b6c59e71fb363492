"""Flags that are told in all data, and how many rounds are enough for them."""

from toldbyrest.errors import UnknownFlag
from toldbyrest.lacking import check_book_and_lacking
from toldbyrest.pairs import Pairs, pairs_for


def rounds_needed(schema, book, lacking, table, flag):
    """Return the least number of rounds behind which no pair differs in a flag, or None if one is left."""
    check_place(schema, book, lacking, table, flag)
    return rounds_for(pairs_for(schema, book, lacking), (table, flag))


def is_told(schema, book, lacking, table, flag):
    """Return whether a flag is told in all data."""
    return rounds_needed(schema, book, lacking, table, flag) is not None


def levels(schema, book, lacking):
    """Return the dict from the lacking flag places to their numbers of rounds, or None."""
    check_book_and_lacking(schema, book, lacking)
    all_pairs = pairs_for(schema, book, lacking)
    return {place: rounds_for(all_pairs, place) for place in sorted(lacking)}


def check_place(schema, book, lacking, table, flag):
    """Raise InvalidBook, InvalidLacking, UnknownTable, or UnknownFlag for what is no lacking flag of the table."""
    check_book_and_lacking(schema, book, lacking)
    schema.flag_at(table, flag)
    if (table, flag) not in lacking:
        raise UnknownFlag("this flag is kept")


def rounds_for(all_pairs, place):
    """Return how many rounds are needed for a lacking flag, by the pairs, or None."""
    differing = all_pairs.differing(place)
    for number, there in enumerate(all_pairs.stages):
        if not there[place[0]] & differing:
            return number
    return None


def are_told_by(kinds, kept, places):
    """Return whether some flags are told in all data if just these flags are kept."""
    all_pairs = Pairs(kinds, [place for place in kinds.schema.flag_places if place not in kept])
    return all([rounds_for(all_pairs, place) is not None for place in places])
