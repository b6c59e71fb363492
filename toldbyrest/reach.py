"""How far rows lie from one another, in steps from value to value."""

from toldbyrest.errors import InvalidRows
from toldbyrest.integers import check_number
from toldbyrest.rows import are_rows_with, check_row


def near(schema, rows, table, index, steps):
    """Return for each table the ascending list of the indexes of the rows that are at most so many steps from a row."""
    _check_start(schema, rows, table, index)
    check_number(steps)
    found = _steps_from(schema, rows, table, index)
    return {
        name: [at for at in range(len(rows[name])) if (name, at) in found and found[(name, at)] <= steps]
        for name in schema.tables
    }


def cut_out(schema, rows, table, index, steps):
    """Return the rows that are at most so many steps from a row, and the index of this row among them."""
    found = near(schema, rows, table, index, steps)
    return ({name: [rows[name][at] for at in found[name]] for name in found}, found[table].index(index))


def steps_between(schema, rows, table, index, other, number):
    """Return the least number of steps between two rows, or None if there is none."""
    _check_start(schema, rows, table, index)
    check_row(schema, rows, other, number)
    return _steps_from(schema, rows, table, index).get((other, number))


def _check_start(schema, rows, table, index):
    """Raise InvalidRows, UnknownTable or UnknownRow; each flag of the rows may be None, too."""
    if not are_rows_with(schema, rows, lambda place, flag: flag is None or isinstance(flag, bool)):
        raise InvalidRows("these are no rows of the schema, nor bare ones")
    check_row(schema, rows, table, index)


def _steps_from(schema, rows, table, index):
    """Return the dict from the rows, as tuples (table, index), to the least numbers of steps from a row, if any."""
    standing = _standing(schema, rows)
    found = {(table, index): 0}
    edge = [(table, index)]
    while edge:
        further = []
        for row in edge:
            for spot in _spots_of(schema, rows, row):
                # Who comes to a spot once has come to all rows that stand at it.
                for other in standing.pop(spot, []):
                    if other not in found:
                        found[other] = found[row] + 1
                        further.append(other)
        edge = further
    return found


def _standing(schema, rows):
    """Return the dict from tuples (kind, value) to the lists of the rows that have a value in a column of a kind."""
    found = {}
    for table in schema.tables:
        for index in range(len(rows[table])):
            for spot in _spots_of(schema, rows, (table, index)):
                found.setdefault(spot, []).append((table, index))
    return found


def _spots_of(schema, rows, row):
    table, index = row
    return [(kind, value) for (_, kind), value in zip(schema.columns(table), rows[table][index][0])]
