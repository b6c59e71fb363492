"""Pairs of row kinds with the same kept flags, and the rounds in which they are struck."""

from toldbyrest.bits import numbers_of
from toldbyrest.kinds import Kinds
from toldbyrest.lacking import check_book_and_lacking
from toldbyrest.left import by_kept_flags, left_of
from toldbyrest.sieves import Sieve, rounds_of


def pairs(schema, book, lacking, table):
    """Return the ascending list of all pairs of a table."""
    return _pairs_behind(schema, book, lacking, table, 0)


def pairs_left(schema, book, lacking, table):
    """Return the ascending list of the pairs of a table that are left."""
    return _pairs_behind(schema, book, lacking, table, -1)


def _pairs_behind(schema, book, lacking, table, stage):
    check_book_and_lacking(schema, book, lacking)
    # Asked for its error alone.
    schema.columns(table)
    found = pairs_for(schema, book, lacking)
    return found.listed(table, found.stages[stage][table])


def rounds_of_pairs(schema, book, lacking):
    """Return the dict from the pairs that are struck to the numbers of their rounds."""
    check_book_and_lacking(schema, book, lacking)
    found = pairs_for(schema, book, lacking)
    return rounds_of(found, found.stages)


def pairs_for(schema, book, lacking):
    """Return the pairs of what is known to be a book and lacking flags."""
    return Pairs(Kinds(schema, book), lacking)


class Pairs:
    """All pairs for lacking flags, and the sieve that strikes them.

    The pairs of a table are numbered in ascending order. To their sieve they are what row kinds
    are to theirs, and two meetings of a kind, also equal ones, are one of its meetings: the
    first of a pair has to fit the one and the second the other one.
    """

    def __init__(self, kinds, lacking):
        self.kinds = kinds
        self.left = left_of(kinds)
        self._numbered = {table: self._alike(table, lacking) for table in kinds.schema.tables}
        self._firsts = {table: self._by_view(table, 0) for table in kinds.schema.tables}
        self._seconds = {table: self._by_view(table, 1) for table in kinds.schema.tables}
        self.sieve = self._make_sieve()
        self.stages = self.sieve.stages()

    def listed(self, table, bits):
        """Return the ascending list of the pairs of a table that have a bit."""
        return [self.pair(table, number) for number in numbers_of(bits)]

    def pair(self, table, number):
        """Return the pair of a table that has a number."""
        views = self.kinds.views[table]
        first, second = self._numbered[table][number]
        return (views[first], views[second])

    def bit_of(self, thing):
        """Return the integer that has the bit of this pair alone, or 0 for what is no pair."""
        if not isinstance(thing, tuple) or len(thing) != 2 or not all([self.kinds.is_row_kind(part) for part in thing]):
            return 0
        first, second = thing
        if first[0] != second[0]:
            return 0
        table = first[0]
        return self._firsts[table][self.kinds.number_of(first)] & self._seconds[table][self.kinds.number_of(second)]

    def flagged(self, growth, side):
        """Return the rows of a growth of pairs, with the flags of the first ones or of the second ones of the pairs."""
        return {
            table: [(values, self.pair(table, item)[side][1]) for values, item in growth.grown[table]]
            for table in self.kinds.schema.tables
        }

    def differing(self, place):
        """Return the pairs of a table of which the first one alone has a flag.

        Those of which the second one alone has it are these turned around, and struck in the
        same rounds.
        """
        with_flag = self.kinds.with_flag[place]
        table, _ = place
        return _any_of(self._firsts[table], with_flag) & ~_any_of(self._seconds[table], with_flag)

    def meetings_of(self, kind, number):
        """Return the numbers of the two meetings of row kinds that are a meeting of pairs."""
        return divmod(number, len(self.kinds.meetings[kind]))

    def meetings_apart(self):
        """Return for each kind the meetings of pairs that are possible if each side has what it needs by itself."""
        possible = self.kinds.sieve.all_possible(self.left)
        return {
            kind: [one * len(self.kinds.meetings[kind]) + other for one in possible[kind] for other in possible[kind]]
            for kind in possible
        }

    def _alike(self, table, lacking):
        """Return the ascending list of the pairs of a table, as tuples of the numbers of views."""
        alike = by_kept_flags(self.kinds, self.left, lacking, table).values()
        return sorted([(one, other) for bits in alike for one in numbers_of(bits) for other in numbers_of(bits)])

    def _by_view(self, table, side):
        """Return for each view of a table the pairs that have it on a side, as the first one or as the second one."""
        found = [0] * len(self.kinds.views[table])
        for number, pair in enumerate(self._numbered[table]):
            found[pair[side]] = found[pair[side]] | 1 << number
        return found

    def _make_sieve(self):
        kinds = self.kinds
        fitting = {place: self._fitting_at(place) for place in kinds.fitting}
        needs = {kind: self._needs_of(kind) for kind in kinds.needs}
        everything = {table: (1 << len(self._numbered[table])) - 1 for table in kinds.schema.tables}
        return Sieve(kinds.schema, everything, fitting, needs)

    def _fitting_at(self, place):
        fitting = self.kinds.fitting[place]
        firsts = [_any_of(self._firsts[place[0]], bits) for bits in fitting]
        seconds = [_any_of(self._seconds[place[0]], bits) for bits in fitting]
        return [one & other for one in firsts for other in seconds]

    def _needs_of(self, kind):
        firsts = self._needs_on(kind, self._firsts)
        seconds = self._needs_on(kind, self._seconds)
        return [one + other for one in firsts for other in seconds]

    def _needs_on(self, kind, by_view):
        """Return for each meeting of row kinds what it asks for on one side of the pairs."""
        return [
            [(place, _any_of(by_view[place[0]], givers)) for place, givers in needs] for needs in self.kinds.needs[kind]
        ]


def _any_of(by_view, bits):
    """Return the pairs that have one of some views on a side."""
    found = 0
    for number in numbers_of(bits):
        found = found | by_view[number]
    return found
