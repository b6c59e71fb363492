"""Candidates of bare rows, and the rounds in which they are struck."""

from toldbyrest.bits import numbers_of


class Board:
    """The candidates of bare rows that are not struck, as views of their tables.

    A spot is a tuple (kind, value), and the rows that have the value in a place of the kind
    stand at it. A meeting is possible at a spot as long as each row has a candidate that fits
    it wherever the row stands there, and there is a helper, a row with a candidate that gives
    it, for each look that it answers with True. Strikes only ever make meetings impossible,
    so what they change is followed from spot to spot, and what they do not change is not
    looked at again: data in which a strike leads to the next one may need as many rounds as
    there are rows.
    """

    def __init__(self, kinds, left, rows):
        self._schema = kinds.schema
        tables = kinds.schema.tables
        self.there = {table: first_candidates(kinds, left, table, rows[table]) for table in tables}
        self._fitting = kinds.fitting
        self._needs = kinds.needs
        self._rows = rows
        self._standing = {}
        self._stand_all()
        self._helpers = {}
        self._possible = {spot: self._first_possible(spot) for spot in self._standing}
        self._changed = {spot: True for spot in self._standing}
        self._letting = {}

    def strike_round(self):
        """Strike what is struck in a round; return the list of tuples (table, index, candidates) of it."""
        rows = {(place[0], index): True for spot in self._changed for place, index in self._standing[spot]}
        self._changed = {}
        lost = [(table, index, self.there[table][index] - self.staying(table, index)) for table, index in rows]
        struck = [(table, index, bits) for table, index, bits in lost if bits]
        for table, index, bits in struck:
            self.strike(table, index, bits)
        return struck

    def staying(self, table, index):
        """Return the candidates of a row that are not struck in a round if just these of all rows are there."""
        found = self.there[table][index]
        for place, spot in self._spots_of(table, index):
            found = found & self._let_be(place, self._possible[spot])
        return found

    def strike(self, table, index, bits):
        """Strike some candidates of a row."""
        before = self.there[table][index]
        after = before & ~bits
        self.there[table][index] = after
        for place, spot in self._spots_of(table, index):
            self._follow(place, spot, before, after)

    def _follow(self, place, spot, before, after):
        """Find the meetings that are impossible at a spot now that a row at a place there has lost candidates."""
        lost = 0
        for number in numbers_of(self._possible[spot]):
            fitting = self._fitting[place][number]
            self._drop_helper(place, spot, number, before & fitting, after & fitting)
            if not after & fitting or 0 in self._helpers[(spot, number)]:
                lost = lost | 1 << number
        if lost:
            self._possible[spot] = self._possible[spot] - lost
            self._changed[spot] = True

    def _drop_helper(self, place, spot, number, before, after):
        """Count a row no longer as a helper for what it gave with the candidates that it had before."""
        for at, (where, givers) in enumerate(self._needs[spot[0]][number]):
            if where == place and before & givers and not after & givers:
                self._helpers[(spot, number)][at] -= 1

    def _spots_of(self, table, index):
        """Return the list of the tuples (place, spot) at which a row stands."""
        return [
            ((table, column), (kind, value))
            for (column, kind), value in zip(self._schema.columns(table), self._rows[table][index][0])
        ]

    def _stand_all(self):
        for table in self._schema.tables:
            for index in range(len(self._rows[table])):
                for place, spot in self._spots_of(table, index):
                    self._standing.setdefault(spot, []).append((place, index))

    def _first_possible(self, spot):
        """Return the meetings that are possible at a spot before anything is struck, and count their helpers."""
        found = 0
        for number, needs in enumerate(self._needs[spot[0]]):
            standing = [
                (place, self.there[place[0]][index] & self._fitting[place][number])
                for place, index in self._standing[spot]
            ]
            helpers = [_many_helpers(standing, place, givers) for place, givers in needs]
            self._helpers[(spot, number)] = helpers
            if all([bits for _, bits in standing]) and all(helpers):
                found = found | 1 << number
        return found

    def _let_be(self, place, possible):
        """Return the views that fit one of some meetings at a place."""
        key = (place, possible)
        if key not in self._letting:
            found = 0
            for number in numbers_of(possible):
                found = found | self._fitting[place][number]
            self._letting[key] = found
        return self._letting[key]


def _many_helpers(standing, place, givers):
    return len([own for own, bits in standing if own == place and bits & givers])


def first_candidates(kinds, left, table, table_rows):
    """Return for each bare row of a table its candidates before anything is struck."""
    return [_with_kept(kinds, left, table, flags) for _, flags in table_rows]


def _with_kept(kinds, left, table, flags):
    """Return the views that are left and have the kept flags of a row."""
    bits = left[table]
    for name, flag in zip(kinds.schema.flags(table), flags):
        if flag is not None:
            bits = bits & (kinds.with_flag[(table, name)] if flag else ~kinds.with_flag[(table, name)])
    return bits
