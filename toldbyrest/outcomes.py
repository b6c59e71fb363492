"""What rounds tell of bare rows, and whether rows keep the rules, worked out step by step anew.

Nothing here changes anything but what it has made itself, so a property may ask for it.
"""

from toldbyrest.boards import first_candidates
from toldbyrest.candidates import with_agreed
from toldbyrest.conditions import depth


def told_behind(kinds, left, rows, number):
    """Return the bare rows with the flags that are worked out behind so many rounds."""
    there = {table: first_candidates(kinds, left, table, rows[table]) for table in rows}
    for _ in range(number):
        there = _staying(kinds, rows, there)
    return {table: with_agreed(kinds, table, rows[table], there[table]) for table in rows}


def _staying(kinds, rows, there):
    """Return the candidates that are not struck in a round if just these are there before."""
    possible = _all_possible(kinds, _standing_at(kinds, rows, there))
    return {
        table: [
            bits & _fit_each_column(kinds, table, values, possible)
            for (values, _), bits in zip(rows[table], there[table])
        ]
        for table in rows
    }


def _standing_at(kinds, rows, there):
    """Return for each tuple (kind, value) the list of the tuples (place, candidates) of the rows that stand there."""
    found = {}
    for table in rows:
        columns = kinds.schema.columns(table)
        for (values, _), bits in zip(rows[table], there[table]):
            for (column, kind), value in zip(columns, values):
                found.setdefault((kind, value), []).append(((table, column), bits))
    return found


def _all_possible(kinds, standing):
    """Return for each tuple (kind, value) the list of the meetings that are possible there."""
    known = {}
    found = {}
    for spot in standing:
        # Many values have the same rows but for their number.
        alike = (spot[0], tuple(sorted(set(standing[spot]))))
        if alike not in known:
            known[alike] = _meetings_at(kinds, spot[0], alike[1])
        found[spot] = known[alike]
    return found


def _meetings_at(kinds, kind, standing):
    found = []
    for number, needs in enumerate(kinds.needs[kind]):
        fitting = [(place, bits & kinds.fitting[place][number]) for place, bits in standing]
        if all([bits for _, bits in fitting]) and all([_is_given(fitting, place, givers) for place, givers in needs]):
            found.append(number)
    return found


def _is_given(fitting, place, givers):
    return any([own == place and bits & givers for own, bits in fitting])


def _fit_each_column(kinds, table, values, possible):
    """Return the views that fit a possible meeting in each column of a row with some values."""
    found = -1
    for (column, kind), value in zip(kinds.schema.columns(table), values):
        fitting = kinds.fitting[(table, column)]
        some = 0
        for number in possible[(kind, value)]:
            some = some | fitting[number]
        found = found & some
    return found


def all_keep(kinds, rows):
    """Return whether rows, with all their flags, are data of the book of some row kinds."""
    views = _view_numbers(kinds, rows)
    return all([kinds.row_kinds[table] >> number & 1 for table in views for number in views[table]])


def _view_numbers(kinds, rows):
    """Return for each table the list of the numbers of the views that its rows are."""
    answers = {}
    # What a look asks for may be told by looks that lie within it, which come first.
    for _, index in sorted([(depth(look[4]), index) for index, look in enumerate(kinds.looks)]):
        answers[index] = _look_answers(kinds, rows, index, answers)
    return {table: _numbers_so_far(kinds, rows, table, answers) for table in rows}


def _look_answers(kinds, rows, index, answers):
    """Return for each row of the table of a look whether there is a row as the look asks for."""
    table, column, other, target, _ = kinds.looks[index]
    to = kinds.schema.column_at(other, target)
    at = kinds.schema.column_at(table, column)
    numbers = _numbers_so_far(kinds, rows, other, answers)
    given = {
        values[to]: True for (values, _), number in zip(rows[other], numbers) if kinds.givers[index] >> number & 1
    }
    return [values[at] in given for values, _ in rows[table]]


def _numbers_so_far(kinds, rows, table, answers):
    """Return the numbers of the views that rows of a table are, by the answers to looks so far."""
    own = [index for index, look in enumerate(kinds.looks) if look[0] == table]
    return [
        kinds.number_of((table, flags, tuple([index in answers and answers[index][at] for index in own])))
        for at, (_, flags) in enumerate(rows[table])
    ]
