"""Papers: why a pair is struck, for all data."""

from toldbyrest.errors import InvalidPair
from toldbyrest.integers import is_value
from toldbyrest.lacking import check_book_and_lacking
from toldbyrest.pairs import pairs_for
from toldbyrest.sieves import rounds_of


def is_paper(schema, book, lacking, thing):
    """Return whether a thing is a paper."""
    check_book_and_lacking(schema, book, lacking)
    all_pairs = pairs_for(schema, book, lacking)
    if not isinstance(thing, dict) or not all([_is_part(all_pairs, key, thing[key]) for key in thing]):
        return False
    by_number = {}
    for pair, number in thing.items():
        by_number.setdefault(number, []).append((pair[0][0], all_pairs.bit_of(pair)))
    there = dict(all_pairs.stages[0])
    for number in sorted(by_number):
        staying = all_pairs.sieve.staying(there)
        if any([staying[table] & bit for table, bit in by_number[number]]):
            return False
        for table, bit in by_number[number]:
            there[table] = there[table] & ~bit
    return True


def _is_part(all_pairs, key, number):
    return all_pairs.bit_of(key) != 0 and is_value(number) and number > 0


def paper(schema, book, lacking, pair):
    """Return a paper with a pair in it, or None if the pair is left."""
    check_book_and_lacking(schema, book, lacking)
    all_pairs = pairs_for(schema, book, lacking)
    if not all_pairs.bit_of(pair):
        raise InvalidPair("this is no pair for these lacking flags")
    rounds = rounds_of(all_pairs, all_pairs.stages)
    if pair not in rounds:
        return None
    # What is struck in the same round is no reason for it.
    return {other: rounds[other] for other in rounds if rounds[other] < rounds[pair] or other == pair}
