"""Names and schemas: tables with columns of kinds, and with flags."""

from toldbyrest.errors import InvalidSchema, UnknownColumn, UnknownFlag, UnknownTable

LETTERS = "abcdefghijklmnopqrstuvwxyz"
NO_NAMES = ("and", "or", "not", "has", "yes", "flag")
MOST_LETTERS = 8
MOST_TABLES = 4
MOST_COLUMNS = 3
MOST_FLAGS = 3


def is_name(thing):
    """Return whether a thing is a name."""
    if not isinstance(thing, str) or not 1 <= len(thing) <= MOST_LETTERS:
        return False
    return thing not in NO_NAMES and all([letter in LETTERS for letter in thing])


def _is_column(thing):
    return isinstance(thing, tuple) and len(thing) == 2 and is_name(thing[0]) and is_name(thing[1])


def _are_columns(thing):
    if not isinstance(thing, tuple) or not 1 <= len(thing) <= MOST_COLUMNS:
        return False
    return all([_is_column(column) for column in thing])


def _are_flags(thing):
    if not isinstance(thing, tuple) or len(thing) > MOST_FLAGS:
        return False
    return all([is_name(flag) for flag in thing])


def _is_table(thing):
    if not isinstance(thing, tuple) or len(thing) != 2:
        return False
    columns, flags = thing
    if not _are_columns(columns) or not _are_flags(flags):
        return False
    names = [name for name, _ in columns] + list(flags)
    return len(set(names)) == len(names)


def _are_tables(thing):
    if not isinstance(thing, dict) or not 1 <= len(thing) <= MOST_TABLES:
        return False
    return all([is_name(name) and _is_table(table) for name, table in thing.items()])


class Schema:
    """Tables by name, each with its columns and flags; it never changes."""

    def __init__(self, tables):
        if not _are_tables(tables):
            raise InvalidSchema("a schema cannot be made from this")
        self._tables = {table: tables[table] for table in sorted(tables)}

    @property
    def tables(self):
        """The ascending list of the names of the tables."""
        return list(self._tables)

    @property
    def flag_places(self):
        """The ascending list of the tuples (table, flag)."""
        return sorted([(table, flag) for table, (_, flags) in self._tables.items() for flag in flags])

    @property
    def column_kinds(self):
        """The ascending list of the different kinds of the columns."""
        return sorted(set([kind for columns, _ in self._tables.values() for _, kind in columns]))

    def columns(self, table):
        """Return the tuple of the columns of a table, each a tuple (name, kind)."""
        return self._table(table)[0]

    def flags(self, table):
        """Return the tuple of the flags of a table."""
        return self._table(table)[1]

    def kind_of(self, table, column):
        """Return the kind of a column."""
        return self.columns(table)[self.column_at(table, column)][1]

    def places(self, kind):
        """Return the ascending list of the places (table, column) of a kind."""
        return sorted([
            (table, name) for table, (columns, _) in self._tables.items() for name, own in columns if own == kind
        ])

    def column_at(self, table, column):
        """Return where a column stands among those of its table."""
        names = [name for name, _ in self.columns(table)]
        if column not in names:
            raise UnknownColumn("the table has no such column")
        return names.index(column)

    def flag_at(self, table, flag):
        """Return where a flag stands among those of its table."""
        flags = self.flags(table)
        if flag not in flags:
            raise UnknownFlag("the table has no such flag")
        return flags.index(flag)

    def __eq__(self, other):
        return isinstance(other, Schema) and self._tables == other._tables

    def _table(self, table):
        # What is no string may be a list, for which a dict cannot be asked.
        if not isinstance(table, str) or table not in self._tables:
            raise UnknownTable("the schema has no such table")
        return self._tables[table]
