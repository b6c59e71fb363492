"""Rows that grow until every value has all that its meeting asks for."""

from toldbyrest.bits import some_number


class Growth:
    """Rows with an item of a sieve each, and values with a meeting each.

    An item stands in a row at values whose meetings it fits. What a meeting asks for is
    brought by further rows at the value, whose other values may in turn ask for rows. On a
    level there is one value for each meeting, however many rows stand at it, so the rows come
    to an end.

    A level is a tuple (meetings, items): which numbers of meetings of each kind values may
    have on it, and which items bring what they ask for. Rows that are brought to a value
    have their other values on the next level, or on the last one for good. If the items of a
    level are None, what its values ask for is left to others.
    """

    def __init__(self, sieve, levels, least_value):
        self.grown = {table: [] for table in sieve.schema.tables}
        self.edge = []
        self._sieve = sieve
        self._levels = levels
        self._least_value = least_value
        self._values = {}
        self._waiting = []

    def plant(self, table, item):
        """Add a row with an item on the first level, and all that it needs; return its index."""
        index = len(self.grown[table])
        self._stand(table, item, 0, None, None)
        self._finish()
        return index

    def serve(self, kind, number, value):
        """Bring what a meeting asks for to a value that others have grown."""
        self._waiting.append((0, kind, number, value))
        self._finish()

    def least_free_value(self):
        """Return the least value that is greater than all that have been grown."""
        return self._least_value + len(self._values)

    def _finish(self):
        while self._waiting:
            level, kind, number, value = self._waiting.pop()
            there = self._levels[level][1]
            if there is None:
                self.edge.append((kind, number, value))
            else:
                self._bring(there, min(level + 1, len(self._levels) - 1), kind, number, value)

    def _bring(self, there, level, kind, number, value):
        for place, givers in self._sieve.needs[kind][number]:
            item = some_number(self._sieve.helpers(there, place, number, givers))
            self._stand(place[0], item, level, place[1], value)

    def _stand(self, table, item, level, given, value):
        """Add a row with an item that has a value in a given column, if that is not None, and values of a level."""
        values = []
        for column, kind in self._sieve.schema.columns(table):
            values.append(value if column == given else self._value((table, column), kind, item, level))
        self.grown[table].append((tuple(values), item))

    def _value(self, place, kind, item, level):
        fitting = self._sieve.fitting[place]
        number = [number for number in self._levels[level][0][kind] if fitting[number] >> item & 1][0]
        spot = (level, kind, number)
        if spot not in self._values:
            self._values[spot] = self.least_free_value()
            self._waiting.append(spot + (self._values[spot],))
        return self._values[spot]
