"""Row kinds and meetings of a book: what they are, which of them fit, and which kind a row is."""

from toldbyrest.bits import bits_of, numbers_of
from toldbyrest.books import check_book
from toldbyrest.conditions import Judge, parts_within
from toldbyrest.errors import InvalidKind, InvalidMeeting, InvalidNumber
from toldbyrest.integers import is_index
from toldbyrest.looks import look_kind, looks_in
from toldbyrest.rows import check_row, check_rows
from toldbyrest.sieves import Sieve


def row_kinds(schema, book, table):
    """Return the ascending list of all row kinds of a table."""
    check_book(schema, book)
    # Asked for its error alone.
    schema.columns(table)
    kinds = Kinds(schema, book)
    return kinds.listed(table, kinds.row_kinds[table])


def is_row_kind(schema, book, thing):
    """Return whether a thing is a row kind."""
    check_book(schema, book)
    return Kinds(schema, book).is_row_kind(thing)


def is_meeting(schema, book, thing):
    """Return whether a thing is a meeting."""
    check_book(schema, book)
    return Kinds(schema, book).is_meeting(thing)


def gives(schema, book, row_kind, index):
    """Return whether a row kind gives the look with an index."""
    check_book(schema, book)
    kinds = Kinds(schema, book)
    kinds.check_row_kind(row_kind)
    if not is_index(index, len(kinds.looks)):
        raise InvalidNumber("there is no look with this index")
    return kinds.looks[index][2] == row_kind[0] and kinds.givers[index] & kinds.bit_of(row_kind) != 0


def fits(schema, book, row_kind, column, meeting):
    """Return whether a row kind fits a meeting at a column of its table."""
    check_book(schema, book)
    kinds = Kinds(schema, book)
    kinds.check_row_kind(row_kind)
    place = (row_kind[0], column)
    own = schema.kind_of(row_kind[0], column)
    if not kinds.is_meeting(meeting):
        raise InvalidMeeting("this is no meeting")
    kind, answers = meeting
    if kind != own:
        return False
    return kinds.fitting[place][kinds.meetings[kind].index(answers)] & kinds.bit_of(row_kind) != 0


def view_on(schema, book, rows, table, index):
    """Return the table, the flags of a row, and for each look of the table whether it finds a row."""
    check_book(schema, book)
    check_rows(schema, rows)
    check_row(schema, rows, table, index)
    judge = Judge(schema, rows, 1)
    own = [look for look in looks_in(book) if look[0] == table]
    answers = [judge.answers(table, ("has",) + look[1:])[index] == 1 for look in own]
    return (table, rows[table][index][1], tuple(answers))


def _choices(many):
    """Return the ascending list of all tuples of so many bools."""
    found = [()]
    for _ in range(many):
        found = [(flag,) + rest for flag in (False, True) for rest in found]
    return found


def _are_bools(thing, many):
    return isinstance(thing, tuple) and len(thing) == many and all([isinstance(part, bool) for part in thing])


class Kinds:
    """The row kinds and meetings of a book, worked out once.

    A view of a table is a tuple (table, flags, answers), whatever the rules say of it; the
    views that keep the rules are the row kinds. The views of a table are numbered in
    ascending order, and many of them are an integer that has a bit for each: so a condition
    is asked of all views at once, and what fits a meeting is found in one step.
    """

    def __init__(self, schema, book):
        self.schema = schema
        self.looks = looks_in(book)
        self.views = {table: self._views_of(table) for table in schema.tables}
        self.with_flag = {place: self._bits_with_flag(place) for place in schema.flag_places}
        self._with_answer = [self._bits_with_answer(index) for index in range(len(self.looks))]
        self.row_kinds = {table: self._bits_keeping(book, table) for table in schema.tables}
        self.givers = [self.bits_meeting(look[2], look[4]) for look in self.looks]
        names = schema.column_kinds
        self.meetings = {kind: _choices(len(self._through(kind))) for kind in names}
        self.fitting = {place: self._fitting_at(place, kind) for kind in names for place in schema.places(kind)}
        self.needs = {kind: [self._needs_of(kind, answers) for answers in self.meetings[kind]] for kind in names}
        self.sieve = Sieve(schema, self.row_kinds, self.fitting, self.needs)

    def listed(self, table, bits):
        """Return the ascending list of the views of a table that have a bit."""
        return [self.views[table][number] for number in numbers_of(bits)]

    def number_of(self, view):
        """Return the number of a view."""
        # The views of a table have all flags and answers there can be, so these are its binary digits.
        number = 0
        for flag in view[1] + view[2]:
            number = 2 * number + (1 if flag else 0)
        return number

    def bit_of(self, view):
        """Return the integer that has the bit of this view alone."""
        return 1 << self.number_of(view)

    def bits_meeting(self, table, condition):
        """Return the views of a table that meet a condition, if a "has" is met by those that answer it with True."""
        word = condition[0]
        if word == "has":
            return self._with_answer[self.looks.index((table,) + condition[1:])]
        if word == "flag":
            return self.with_flag[(table, condition[1])]
        below = [self.bits_meeting(table, part) for part in parts_within(condition)]
        if word == "not":
            return self._all_of(table) - below[0]
        if word == "and":
            return below[0] & below[1]
        if word == "or":
            return below[0] | below[1]
        return self._all_of(table)

    def is_row_kind(self, thing):
        """Return whether a thing is a row kind."""
        if not isinstance(thing, tuple) or len(thing) != 3 or thing[0] not in self.schema.tables:
            return False
        table, flags, answers = thing
        if not _are_bools(flags, len(self.schema.flags(table))) or not _are_bools(answers, len(self._own(table))):
            return False
        return self.bit_of(thing) & self.row_kinds[table] != 0

    def check_row_kind(self, row_kind):
        """Raise InvalidKind for what is no row kind."""
        if not self.is_row_kind(row_kind):
            raise InvalidKind("this is no row kind")

    def is_meeting(self, thing):
        """Return whether a thing is a meeting."""
        if not isinstance(thing, tuple) or len(thing) != 2 or thing[0] not in self.schema.column_kinds:
            return False
        return _are_bools(thing[1], len(self._through(thing[0])))

    def _own(self, table):
        return [index for index, look in enumerate(self.looks) if look[0] == table]

    def _through(self, kind):
        return [index for index, look in enumerate(self.looks) if look_kind(self.schema, look) == kind]

    def _views_of(self, table):
        all_answers = _choices(len(self._own(table)))
        return [(table, flags, answers) for flags in _choices(len(self.schema.flags(table))) for answers in all_answers]

    def _bits_with_flag(self, place):
        table, flag = place
        at = self.schema.flag_at(table, flag)
        return bits_of([flags[at] for _, flags, _ in self.views[table]])

    def _bits_with_answer(self, index):
        table = self.looks[index][0]
        at = self._own(table).index(index)
        return bits_of([answers[at] for _, _, answers in self.views[table]])

    def _bits_keeping(self, book, table):
        bits = self._all_of(table)
        for own, condition in book:
            if own == table:
                bits = bits & self.bits_meeting(table, condition)
        return bits

    def _all_of(self, table):
        return (1 << len(self.views[table])) - 1

    def _fitting_at(self, place, kind):
        return [self._bits_fitting(place, kind, answers) for answers in self.meetings[kind]]

    def _bits_fitting(self, place, kind, answers):
        bits = self.row_kinds[place[0]]
        for index, answer in zip(self._through(kind), answers):
            look = self.looks[index]
            if look[:2] == place:
                bits = bits & (self._with_answer[index] if answer else ~self._with_answer[index])
            if look[2:4] == place and not answer:
                bits = bits & ~self.givers[index]
        return bits

    def _needs_of(self, kind, answers):
        asked = [index for index, answer in zip(self._through(kind), answers) if answer]
        return [(self.looks[index][2:4], self.givers[index]) for index in asked]
