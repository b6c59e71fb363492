"""Conditions of a table: what they are, what they hold, and which rows meet them."""

from toldbyrest.errors import InvalidCondition, UnknownColumn, UnknownTable
from toldbyrest.rows import check_row, check_rows

# For each word that a condition begins with: how many parts stand ahead of the conditions
# in it, the word itself counted, and how many conditions there are.
FORMS = {"yes": (1, 0), "flag": (2, 0), "has": (4, 1), "not": (1, 1), "and": (1, 2), "or": (1, 2)}


def is_condition(schema, table, thing):
    """Return whether a thing is a condition of a table."""
    if not begins_well(schema, table, thing):
        return False
    below = table_within(table, thing)
    return all([is_condition(schema, below, part) for part in parts_within(thing)])


def begins_well(schema, table, thing):
    """Return whether a thing is a condition of a table, whatever stands for the conditions in it."""
    flags = schema.flags(table)
    if not _has_form(thing):
        return False
    if thing[0] == "flag":
        return thing[1] in flags
    return thing[0] != "has" or _is_look(schema, table, thing)


def _has_form(thing):
    if not isinstance(thing, tuple) or not thing:
        return False
    word = thing[0]
    return isinstance(word, str) and word in FORMS and len(thing) == sum(FORMS[word])


def _is_look(schema, table, condition):
    _, column, other, target, _ = condition
    try:
        return schema.kind_of(table, column) == schema.kind_of(other, target)
    except (UnknownTable, UnknownColumn):
        return False


def words_of(condition):
    """Return the tuple of the parts of a condition that stand ahead of the conditions in it."""
    return condition[:FORMS[condition[0]][0]]


def parts_within(condition):
    """Return the tuple of the conditions that stand directly in a condition."""
    return condition[FORMS[condition[0]][0]:]


def table_within(table, condition):
    """Return the table of the conditions that stand directly in a condition of a table."""
    return condition[2] if condition[0] == "has" else table


def check_condition(schema, table, condition):
    """Raise UnknownTable, or InvalidCondition for what is no condition of the table."""
    if not is_condition(schema, table, condition):
        raise InvalidCondition("this is no condition of the table")


def meets(schema, rows, table, index, condition):
    """Return whether a row meets a condition."""
    check_rows(schema, rows)
    check_row(schema, rows, table, index)
    check_condition(schema, table, condition)
    return Judge(schema, rows, 1).answers(table, condition)[index] == 1


def depth(condition):
    """Return how many "has" lie within one another at most."""
    below = max([depth(part) for part in parts_within(condition)], default=0)
    return below + 1 if condition[0] == "has" else below


def has_parts(table, condition):
    """Return the list of the tuples (table, column, other, target, condition) of all "has"."""
    found = [(table,) + condition[1:]] if condition[0] == "has" else []
    below = table_within(table, condition)
    for part in parts_within(condition):
        found.extend(has_parts(below, part))
    return found


def flags_in(table, condition):
    """Return the ascending list of the different flag places in a condition of a table."""
    return sorted(set(_all_flags_in(table, condition)))


def _all_flags_in(table, condition):
    found = [(table, condition[1])] if condition[0] == "flag" else []
    below = table_within(table, condition)
    for part in parts_within(condition):
        found.extend(_all_flags_in(below, part))
    return found


class Judge:
    """Tells in which cases rows meet conditions, for all rows of a table at once.

    The cases differ in flags alone. What holds in some of them is an integer that has a bit
    for each of them; a flag of a row is such an integer, or True in all cases, or False in
    all. So many fillings are judged in the time that one takes.

    Asked row by row, a look within a look would be asked again for each row that looks. And
    a large condition says the same many times: so each different tuple of answers has
    a number, and what follows from answers is worked out once for their numbers. (A
    condition itself may lie too deep to be a key.)
    """

    def __init__(self, schema, rows, many_cases):
        self._schema = schema
        self._rows = rows
        self._all_cases = (1 << many_cases) - 1
        self._answers = []
        self._numbers = {}
        self._worked_out = {}

    def answers(self, table, condition):
        """Return a tuple that tells for each row of a table in which cases it meets a condition."""
        return self._answers[self._number(table, condition)]

    def cases_kept(self, book):
        """Return in which cases the rows break no rule of a book."""
        found = self._all_cases
        for table, condition in book:
            for cases in self.answers(table, condition):
                found = found & cases
        return found

    def _number(self, table, condition):
        below = table_within(table, condition)
        numbers = [self._number(below, part) for part in parts_within(condition)]
        key = (table,) + words_of(condition) + tuple(numbers)
        if key not in self._worked_out:
            found = self._work_out(table, condition, [self._answers[number] for number in numbers])
            self._worked_out[key] = self._numbered(found)
        return self._worked_out[key]

    def _numbered(self, answers):
        if answers not in self._numbers:
            self._numbers[answers] = len(self._answers)
            self._answers.append(answers)
        return self._numbers[answers]

    def _work_out(self, table, condition, below):
        word = condition[0]
        if word == "flag":
            at = self._schema.flag_at(table, condition[1])
            return tuple([self._cases_of(flags[at]) for _, flags in self._rows[table]])
        if word == "has":
            return self._look(table, condition, below[0])
        if word == "not":
            return tuple([self._all_cases - cases for cases in below[0]])
        if word == "and":
            return tuple([first & second for first, second in zip(below[0], below[1])])
        if word == "or":
            return tuple([first | second for first, second in zip(below[0], below[1])])
        return (self._all_cases,) * len(self._rows[table])

    def _cases_of(self, flag):
        if isinstance(flag, bool):
            return self._all_cases if flag else 0
        return flag

    def _look(self, table, condition, answers):
        _, column, other, target, _ = condition
        to = self._schema.column_at(other, target)
        at = self._schema.column_at(table, column)
        seen = {}
        for (values, _), cases in zip(self._rows[other], answers):
            seen[values[to]] = seen.get(values[to], 0) | cases
        return tuple([seen.get(values[at], 0) for values, _ in self._rows[table]])
