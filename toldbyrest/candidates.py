"""Candidates of bare rows behind a number of rounds, and the flags that they tell."""

from toldbyrest.boards import Board
from toldbyrest.integers import check_number
from toldbyrest.kinds import Kinds
from toldbyrest.lacking import check_bare
from toldbyrest.left import left_of


def candidates(schema, book, lacking, rows, number):
    """Return for each bare row the ascending list of its candidates that are not struck in so many rounds."""
    check_bare(schema, book, lacking, rows)
    check_number(number)
    kinds = Kinds(schema, book)
    there = _there_behind(kinds, rows, number)
    return {table: [kinds.listed(table, bits) for bits in there[table]] for table in schema.tables}


def worked_out(schema, book, lacking, rows, number):
    """Return the bare rows with the flags that are worked out behind so many rounds."""
    check_bare(schema, book, lacking, rows)
    check_number(number)
    kinds = Kinds(schema, book)
    there = _there_behind(kinds, rows, number)
    return {table: with_agreed(kinds, table, rows[table], there[table]) for table in schema.tables}


def last_round(schema, book, lacking, rows):
    """Return the number of the last round in which a candidate is struck, or 0."""
    check_bare(schema, book, lacking, rows)
    kinds = Kinds(schema, book)
    board = Board(kinds, left_of(kinds), rows)
    number = 0
    while board.strike_round():
        number += 1
    return number


def _there_behind(kinds, rows, number):
    board = Board(kinds, left_of(kinds), rows)
    for _ in range(number):
        # The number may be far beyond the last round.
        if not board.strike_round():
            break
    return board.there


def with_agreed(kinds, table, table_rows, there):
    """Return the bare rows of a table with the lacking flags in which all of their candidates agree."""
    places = [(table, flag) for flag in kinds.schema.flags(table)]
    return [
        (values, tuple([_agreed(kinds.with_flag[place], flag, bits) for place, flag in zip(places, flags)]))
        for (values, flags), bits in zip(table_rows, there)
    ]


def _agreed(with_flag, flag, bits):
    """Return a flag of a row or, where it is lacking, what all candidates of the row have there, or None."""
    if flag is not None:
        return flag
    having = bits & with_flag
    if not bits or having not in (0, bits):
        return None
    return having != 0
