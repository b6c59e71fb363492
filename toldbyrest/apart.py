"""Data that show that a flag is not told, or not behind a number of rounds."""

from toldbyrest.bits import some_number
from toldbyrest.growth import Growth
from toldbyrest.integers import check_number
from toldbyrest.left import flagged, growth_of
from toldbyrest.pairs import pairs_for
from toldbyrest.told import check_place, rounds_for


def data_apart(schema, book, lacking, table, flag):
    """Return two data, alike but for the lacking flags, and the index of a row that has the flag in the first alone.

    Return None if the flag is told in all data.
    """
    check_place(schema, book, lacking, table, flag)
    return _apart(pairs_for(schema, book, lacking), (table, flag))


def data_behind(schema, book, lacking, table, flag, number):
    """Return data and the index of a row whose flag is not worked out in the bare rows behind so many rounds.

    Return None if so many rounds are enough.
    """
    # What lies near the row, and so its candidates behind so many rounds, is as in other data.
    found = data_near(schema, book, lacking, table, flag, number)
    if found is None:
        return None
    rows, _, index = found
    return (rows, index)


def data_near(schema, book, lacking, table, flag, number):
    """Return two data, the same bare rows up to so many steps from a row, and its index; it has the flag in one alone.

    Return None if so many rounds are enough.
    """
    check_place(schema, book, lacking, table, flag)
    check_number(number)
    all_pairs = pairs_for(schema, book, lacking)
    needed = rounds_for(all_pairs, (table, flag))
    if needed is None:
        return _apart(all_pairs, (table, flag))
    if number >= needed:
        return None
    return _near(all_pairs, (table, flag), number)


def _apart(all_pairs, place):
    """Return two data in which pairs stand that are left, or None if none of them differs in the flag."""
    table, _ = place
    left = all_pairs.stages[-1]
    differing = all_pairs.differing(place) & left[table]
    if not differing:
        return None
    growth = Growth(all_pairs.sieve, [(all_pairs.sieve.all_possible(left), left)], 0)
    index = growth.plant(table, some_number(differing))
    return (all_pairs.flagged(growth, 0), all_pairs.flagged(growth, 1), index)


def _near(all_pairs, place, number):
    """Return two data in which pairs stand up to so many steps from a row, and beyond them what each one needs.

    The pair of a row is not struck in as many rounds as there are steps from the row to the
    farthest ones; so from step to step a round less has to be withstood.
    """
    table, _ = place
    stages = all_pairs.stages
    levels = [(all_pairs.sieve.all_possible(stages[rounds]), stages[rounds]) for rounds in reversed(range(number))]
    growth = Growth(all_pairs.sieve, levels + [(all_pairs.meetings_apart(), None)], 0)
    index = growth.plant(table, some_number(all_pairs.differing(place) & stages[number][table]))
    return (_completed(all_pairs, growth, 0), _completed(all_pairs, growth, 1), index)


def _completed(all_pairs, growth, side):
    """Return the rows of a growth on one side of its pairs, and behind them what its edge needs there."""
    rows = all_pairs.flagged(growth, side)
    others = growth_of(all_pairs.kinds, all_pairs.left, growth.least_free_value())
    for kind, number, value in growth.edge:
        others.serve(kind, all_pairs.meetings_of(kind, number)[side], value)
    more = flagged(all_pairs.kinds, others)
    return {table: rows[table] + more[table] for table in rows}
