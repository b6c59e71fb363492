"""Rounds in which items of tables are struck that no meeting lets be."""


class Sieve:
    """Strikes items of tables in rounds, by what is still there of all items.

    The items of a table are numbered, and many of them are an integer that has a bit for each
    (a dict from all tables to such integers is called items here). The meetings of a kind are
    numbered, too. `fitting` gives for each place a list of the items that fit each meeting
    there, and `needs` for each kind a list of what each meeting asks for: a list of tuples
    (place, items), of which one that fits the meeting at the place has to be there.
    """

    def __init__(self, schema, items, fitting, needs):
        self.schema = schema
        self.all_items = items
        self.fitting = fitting
        self.needs = needs

    def stages(self):
        """Return the list of the items that are there behind 0, 1, .. rounds; the last ones are never struck."""
        found = [self.all_items]
        there = self.staying(self.all_items)
        while there != found[-1]:
            found.append(there)
            there = self.staying(there)
        return found

    def staying(self, there):
        """Return those of the items that are not struck in a round if just these are there before."""
        found = {}
        for table in self.schema.tables:
            found[table] = there[table]
            for column, kind in self.schema.columns(table):
                found[table] = found[table] & self._let_be(there, (table, column), kind)
        return found

    def possible(self, there, kind):
        """Return the list of the numbers of the meetings of a kind that get all they ask for."""
        return [number for number in range(len(self.needs[kind])) if self._is_possible(there, kind, number)]

    def helpers(self, there, place, number, givers):
        """Return those of the items that are there that fit a meeting at a place and give what it asks for."""
        return there[place[0]] & self.fitting[place][number] & givers

    def _is_possible(self, there, kind, number):
        return all([self.helpers(there, place, number, givers) for place, givers in self.needs[kind][number]])

    def _let_be(self, there, place, kind):
        found = 0
        for number in self.possible(there, kind):
            found = found | self.fitting[place][number]
        return found
