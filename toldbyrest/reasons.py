"""Reasons: why a candidate of a bare row is struck."""

from toldbyrest.boards import Board
from toldbyrest.errors import InvalidKind
from toldbyrest.integers import is_index, is_value
from toldbyrest.kinds import Kinds
from toldbyrest.lacking import check_bare
from toldbyrest.left import left_of
from toldbyrest.rows import check_row


def is_reason(schema, book, lacking, rows, thing):
    """Return whether a thing is a reason."""
    check_bare(schema, book, lacking, rows)
    kinds = Kinds(schema, book)
    board = Board(kinds, left_of(kinds), rows)
    if not isinstance(thing, dict) or not all([_is_part(kinds, board, key, thing[key]) for key in thing]):
        return False
    by_number = {}
    for (table, index, row_kind), number in thing.items():
        by_number.setdefault(number, []).append((table, index, kinds.bit_of(row_kind)))
    for number in sorted(by_number):
        if any([board.staying(table, index) & bit for table, index, bit in by_number[number]]):
            return False
        for table, index, bit in by_number[number]:
            board.strike(table, index, bit)
    return True


def _is_part(kinds, board, key, number):
    """Return whether a key of a reason is a row and a candidate of it, and its number one of a round."""
    if not isinstance(key, tuple) or len(key) != 3 or not is_value(number) or number == 0:
        return False
    table, index, row_kind = key
    if table not in kinds.schema.tables or not is_index(index, len(board.there[table])):
        return False
    return _is_candidate(kinds, board, table, index, row_kind)


def _is_candidate(kinds, board, table, index, row_kind):
    if not kinds.is_row_kind(row_kind) or row_kind[0] != table:
        return False
    return board.there[table][index] & kinds.bit_of(row_kind) != 0


def reason(schema, book, lacking, rows, table, index, row_kind):
    """Return a reason with a candidate of a row in it, or None if it is never struck."""
    check_bare(schema, book, lacking, rows)
    check_row(schema, rows, table, index)
    kinds = Kinds(schema, book)
    board = Board(kinds, left_of(kinds), rows)
    if not _is_candidate(kinds, board, table, index, row_kind):
        raise InvalidKind("this is no candidate of the row")
    found = {}
    number = 0
    while board.there[table][index] & kinds.bit_of(row_kind):
        struck = board.strike_round()
        if not struck:
            return None
        number += 1
        for name, at, bits in struck:
            for other in kinds.listed(name, bits):
                found[(name, at, other)] = number
    # What is struck in the same round is no reason for it.
    key = (table, index, row_kind)
    return {part: found[part] for part in sorted(found) if found[part] < number or part == key}
