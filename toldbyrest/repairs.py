"""Which kept flags to turn, so that bare rows have a filling."""

from toldbyrest.conditions import Judge
from toldbyrest.fillings import cases_with, filled_with, gaps_in
from toldbyrest.lacking import check_bare

MOST_CASES = 1024


def fewest_turns(schema, book, lacking, rows):
    """Return the first of the shortest lists of kept flags to turn for a filling, or None if none does.

    The flags are tuples (table, index, flag).
    """
    check_bare(schema, book, lacking, rows)
    kept = _kept_flags(schema, rows)
    at_once = max(1, MOST_CASES >> len(gaps_in(schema, rows)))
    for many in range(len(kept) + 1):
        lists = _sublists(kept, many)
        for start in range(0, len(lists), at_once):
            some = lists[start:start + at_once]
            found = _fillable(schema, book, rows, some)
            if True in found:
                return some[found.index(True)]
    return None


def _kept_flags(schema, rows):
    return sorted([
        (table, index, name)
        for table in schema.tables
        for index, (_, flags) in enumerate(rows[table])
        for name, flag in zip(schema.flags(table), flags)
        if flag is not None
    ])


def _sublists(listed, many):
    """Return the ascending list of the lists of so many items of an ascending list."""
    found = [[]]
    for _ in range(many):
        found = [part + [item] for part in found for item in listed if not part or item > part[-1]]
    return found


def _fillable(schema, book, rows, lists):
    """Return for each of some lists of kept flags whether the rows have a filling when these are turned."""
    # All choices for the gaps are tried with all lists at once, each as a case, first those with the first list.
    gaps = gaps_in(schema, rows)
    many = 1 << len(gaps)
    turned = {
        table: [_turned_row(schema, table, index, row, lists, many) for index, row in enumerate(rows[table])]
        for table in schema.tables
    }
    choices = [_cases([cases_with(at, len(gaps))] * len(lists), many) for at in range(len(gaps))]
    kept = Judge(schema, filled_with(schema, turned, gaps, choices), many * len(lists)).cases_kept(book)
    return [kept >> many * number & _every(many) != 0 for number in range(len(lists))]


def _turned_row(schema, table, index, row, lists, many):
    """Return a row that has for each kept flag the cases in which it is True."""
    values, flags = row
    places = [(table, index, name) for name in schema.flags(table)]
    return (values, tuple([
        None if flag is None else _cases([_every(many) if flag != (place in turned) else 0 for turned in lists], many)
        for place, flag in zip(places, flags)
    ]))


def _every(many):
    return (1 << many) - 1


def _cases(parts, many):
    """Return the cases with all lists from those with each of them."""
    return sum([part << many * number for number, part in enumerate(parts)])
