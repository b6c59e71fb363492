"""Rows of a schema: what they are, and rows that are made from others."""

from toldbyrest.errors import InvalidRows, UnknownRow
from toldbyrest.integers import is_index, is_integer, is_value


def are_rows(schema, thing):
    """Return whether a thing is rows of a schema."""
    return are_rows_with(schema, thing, lambda place, flag: isinstance(flag, bool))


def are_rows_with(schema, thing, fits):
    """Return whether a thing is rows of a schema but for their flags, which fit their flag places.

    `fits` is a function of a flag place and of what stands there.
    """
    if not isinstance(thing, dict) or len(thing) != len(schema.tables):
        return False
    return all([table in thing and _are_rows_of(schema, table, thing[table], fits) for table in schema.tables])


def _are_rows_of(schema, table, thing, fits):
    if not isinstance(thing, list):
        return False
    many_values = len(schema.columns(table))
    places = [(table, flag) for flag in schema.flags(table)]
    return all([_is_row(row, many_values, places, fits) for row in thing])


def _is_row(thing, many_values, places, fits):
    if not isinstance(thing, tuple) or len(thing) != 2:
        return False
    values, flags = thing
    if not isinstance(values, tuple) or len(values) != many_values:
        return False
    if not isinstance(flags, tuple) or len(flags) != len(places):
        return False
    return all([is_value(value) for value in values]) and _do_fit(places, flags, fits)


def _do_fit(places, flags, fits):
    return all([fits(place, flag) for place, flag in zip(places, flags)])


def check_rows(schema, rows):
    """Raise InvalidRows for what is no rows of the schema."""
    if not are_rows(schema, rows):
        raise InvalidRows("these are no rows of the schema")


def check_row(schema, rows, table, index):
    """Raise UnknownTable, or UnknownRow if the table has no row with this index."""
    # Asked of the schema for its error: rows cannot be asked for a table that may be any object.
    schema.columns(table)
    if not is_index(index, len(rows[table])):
        raise UnknownRow("the table has no row with this index")


def rows_at(schema, rows, table, column, value):
    """Return the ascending list of the indexes of the rows that have a value in a column."""
    check_rows(schema, rows)
    at = schema.column_at(table, column)
    # True and False are no values, though they equal 1 and 0.
    if not is_integer(value):
        return []
    return [index for index, (values, _) in enumerate(rows[table]) if values[at] == value]


def beside(schema, rows, others):
    """Return the rows and behind them the others, whose values are moved so that none is shared."""
    check_rows(schema, rows)
    check_rows(schema, others)
    step = _least_above(rows)
    return {table: rows[table] + _moved(others[table], step) for table in schema.tables}


def _least_above(rows):
    used = [value for table in rows for values, _ in rows[table] for value in values]
    return max(used, default=-1) + 1


def _moved(table_rows, step):
    return [(tuple([value + step for value in values]), flags) for values, flags in table_rows]


def turned(schema, rows, table, index, flag):
    """Return the rows with one flag of a row turned."""
    check_rows(schema, rows)
    check_row(schema, rows, table, index)
    at = schema.flag_at(table, flag)
    result = {name: list(rows[name]) for name in schema.tables}
    row = result[table][index]
    result[table][index] = with_flag(row, at, not row[1][at])
    return result


def with_flag(row, at, flag):
    """Return a row with another flag where one of its flags stands."""
    values, flags = row
    return (values, flags[:at] + (flag,) + flags[at + 1:])
