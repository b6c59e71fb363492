"""Rounds in which items of tables are struck that no meeting lets be."""


class Sieve:
    """Strikes items of tables in rounds, by what is still there of all items.

    The items of a table are numbered, and many of them are an integer that has a bit for each
    (a dict from all tables to such integers is called items here). The meetings of a kind are
    numbered, too. `fitting` gives for each place a list of the items that fit each meeting
    there, and `needs` for each kind a list of what each meeting asks for: a list of tuples
    (place, items), of which one that fits the meeting at the place has to be there.
    """

    def __init__(self, schema, items, fitting, needs):
        self.schema = schema
        self.all_items = items
        self.fitting = fitting
        self.needs = needs

    def stages(self):
        """Return the list of the items that are there behind 0, 1, .. rounds; the last ones are never struck."""
        found = [self.all_items]
        there = self.staying(self.all_items)
        while there != found[-1]:
            found.append(there)
            there = self.staying(there)
        return found

    def staying(self, there):
        """Return those of the items that are not struck in a round if just these are there before."""
        possible = self.all_possible(there)
        found = {}
        for table in self.schema.tables:
            found[table] = there[table]
            for column, kind in self.schema.columns(table):
                found[table] = found[table] & self._fitting_some((table, column), possible[kind])
        return found

    def all_possible(self, there):
        """Return for each kind the list of the numbers of the meetings that get all they ask for."""
        return {kind: self._possible(there, kind) for kind in self.needs}

    def helpers(self, there, place, number, givers):
        """Return those of the items that are there that fit a meeting at a place and give what it asks for."""
        return there[place[0]] & self.fitting[place][number] & givers

    def _possible(self, there, kind):
        return [
            number for number, needs in enumerate(self.needs[kind])
            if all([self.helpers(there, place, number, givers) for place, givers in needs])
        ]

    def _fitting_some(self, place, numbers):
        """Return the items that fit one of some meetings at a place."""
        found = 0
        for number in numbers:
            found = found | self.fitting[place][number]
        return found


def rounds_of(listing, stages):
    """Return the ascending dict from what is struck to the numbers of the rounds, by the stages of a sieve.

    The listing has a method that lists what the items of a table are, by their bits.
    """
    found = {}
    for number in range(1, len(stages)):
        for table in stages[number]:
            for thing in listing.listed(table, stages[number - 1][table] - stages[number][table]):
                found[thing] = number
    return {thing: found[thing] for thing in sorted(found)}
