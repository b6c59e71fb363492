"""Stores of bare rows in which told flags are kept right."""

from toldbyrest.errors import InvalidRows, NothingToUndo, NotTold, UnknownFlag
from toldbyrest.kinds import Kinds
from toldbyrest.lacking import are_bare
from toldbyrest.left import left_of
from toldbyrest.outcomes import all_keep, told_behind
from toldbyrest.rows import check_row, with_flag
from toldbyrest.told import levels


class Store:
    """Bare rows that change call by call, with the lacking flags that the rules tell."""

    def __init__(self, schema, book, lacking):
        rounds = list(levels(schema, book, lacking).values())
        if None in rounds:
            raise NotTold("a lacking flag is not told in all data")
        self._schema = schema
        self._book = list(book)
        self._lacking = list(lacking)
        self._kinds = Kinds(schema, book)
        self._left = left_of(self._kinds)
        self._rounds = max(rounds, default=0)
        self._rows = {table: [] for table in schema.tables}
        self._past = []
        self._told_so_far = None

    @property
    def rows(self):
        """The bare rows."""
        return {table: list(rows) for table, rows in self._rows.items()}

    @property
    def told(self):
        """The bare rows with the flags that are worked out, and None where they are not."""
        return {table: list(rows) for table, rows in self._told.items()}

    @property
    def sound(self):
        """Whether the bare rows have a filling."""
        # The rounds are enough where there is a filling, so it can be no other than this one.
        return not _has_gaps(self._told) and all_keep(self._kinds, self._told)

    def put(self, table, values, flags):
        """Put a bare row behind those of a table; return its index."""
        self._schema.columns(table)
        row = (values, flags)
        if not are_bare(self._schema, self._lacking, {name: [row] if name == table else [] for name in self._rows}):
            raise InvalidRows("this is no bare row of the table")
        index = len(self._rows[table])
        self._replace(table, index, 0, [row])
        return index

    def drop(self, table, index):
        """Take a row out; return the list of the flags of the others that are told otherwise now."""
        check_row(self._schema, self._rows, table, index)
        before = self.told
        del before[table][index]
        self._replace(table, index, 1, [])
        return self._told_otherwise(before)

    def turn(self, table, index, flag):
        """Turn a kept flag of a row; return the list of the flags that are told otherwise now."""
        check_row(self._schema, self._rows, table, index)
        at = self._schema.flag_at(table, flag)
        if (table, flag) in self._lacking:
            raise UnknownFlag("this flag is lacking")
        before = self.told
        row = self._rows[table][index]
        self._replace(table, index, 1, [with_flag(row, at, not row[1][at])])
        return self._told_otherwise(before)

    def undo(self):
        """Restore the state before the last call that has put, dropped or turned something."""
        if not self._past:
            raise NothingToUndo("nothing is left to undo")
        table, index, many, before = self._past.pop()
        self._rows[table][index:index + many] = before
        self._told_so_far = None

    def copy(self):
        """Return an independent store in the same state, with the same calls to undo."""
        other = Store(self._schema, self._book, self._lacking)
        other._rows = self.rows
        other._past = list(self._past)
        return other

    def __len__(self):
        return len(self._past)

    @property
    def _told(self):
        if self._told_so_far is None:
            self._told_so_far = told_behind(self._kinds, self._left, self._rows, self._rounds)
        return self._told_so_far

    def _replace(self, table, index, many, instead):
        """Set rows in the place of so many rows from an index on, and note how to undo it."""
        rows = self._rows[table]
        self._past.append((table, index, len(instead), rows[index:index + many]))
        rows[index:index + many] = instead
        self._told_so_far = None

    def _told_otherwise(self, before):
        """Return the ascending list of the lacking flags that are told otherwise than they were before."""
        after = self._told
        return sorted([
            (table, index, flag)
            for table, flag in self._lacking
            for index, (one, other) in enumerate(zip(before[table], after[table]))
            if self._flag_of(one, table, flag) != self._flag_of(other, table, flag)
        ])

    def _flag_of(self, row, table, flag):
        return row[1][self._schema.flag_at(table, flag)]


def _has_gaps(rows):
    return any([None in flags for table in rows for _, flags in rows[table]])
