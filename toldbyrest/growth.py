"""Rows that grow until every value has all that its meeting asks for."""

from toldbyrest.bits import some_number


class Growth:
    """Rows with an item of a sieve each, and values with a meeting each.

    An item stands in a row at values whose meetings it fits. What a meeting asks for is
    brought by further rows at the value, whose other values may in turn ask for rows. There is
    one value for each meeting, however many rows stand at it, so the rows come to an end.
    """

    def __init__(self, sieve, there):
        self.rows = {table: [] for table in sieve.schema.tables}
        self._sieve = sieve
        self._there = there
        self._possible = {kind: sieve.possible(there, kind) for kind in sieve.needs}
        self._values = {}
        self._waiting = []

    def plant(self, table, item):
        """Add a row with an item, and all that it needs; return its index."""
        index = len(self.rows[table])
        self._stand(table, item, None, None)
        while self._waiting:
            self._serve(self._waiting.pop())
        return index

    def _stand(self, table, item, given, value):
        """Add a row with an item that has a given value in one column, if it is not None."""
        values = []
        for column, kind in self._sieve.schema.columns(table):
            values.append(value if column == given else self._value(table, column, kind, item))
        self.rows[table].append((tuple(values), item))

    def _value(self, table, column, kind, item):
        spot = (kind, self._meeting(table, column, kind, item))
        if spot not in self._values:
            self._values[spot] = len(self._values)
            self._waiting.append(spot)
        return self._values[spot]

    def _meeting(self, table, column, kind, item):
        fitting = self._sieve.fitting[(table, column)]
        return [number for number in self._possible[kind] if fitting[number] >> item & 1][0]

    def _serve(self, spot):
        kind, number = spot
        for place, givers in self._sieve.needs[kind][number]:
            item = some_number(self._sieve.helpers(self._there, place, number, givers))
            self._stand(place[0], item, place[1], self._values[spot])
