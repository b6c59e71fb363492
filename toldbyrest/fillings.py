"""All fillings of bare rows, and what they have in common."""

from toldbyrest.conditions import Judge
from toldbyrest.lacking import check_bare
from toldbyrest.rows import with_flag


def fillings(schema, book, lacking, rows):
    """Return the list of all fillings of bare rows, in the ascending order of their flags."""
    check_bare(schema, book, lacking, rows)
    gaps = gaps_in(schema, rows)
    return [filled_with(schema, rows, gaps, flags) for flags in _choices(schema, book, rows, gaps)]


def how_many(schema, book, lacking, rows):
    """Return how many fillings bare rows have."""
    check_bare(schema, book, lacking, rows)
    return len(_choices(schema, book, rows, gaps_in(schema, rows)))


def sure(schema, book, lacking, rows):
    """Return the bare rows with the flags that all fillings have in common, or None without a filling."""
    check_bare(schema, book, lacking, rows)
    gaps = gaps_in(schema, rows)
    choices = _choices(schema, book, rows, gaps)
    if not choices:
        return None
    return filled_with(schema, rows, gaps, [_agreed([flags[at] for flags in choices]) for at in range(len(gaps))])


def gaps_in(schema, rows):
    """Return the ascending list of the tuples (table, index of a row, place of a flag) of each None."""
    return [
        (table, index, at)
        for table in schema.tables
        for index, (_, flags) in enumerate(rows[table])
        for at, flag in enumerate(flags)
        if flag is None
    ]


def filled_with(schema, rows, gaps, flags):
    """Return the rows with these flags in the gaps, in their order."""
    result = {table: list(rows[table]) for table in schema.tables}
    for (table, index, at), flag in zip(gaps, flags):
        result[table][index] = with_flag(result[table][index], at, flag)
    return result


def _choices(schema, book, rows, gaps):
    """Return the ascending list of the lists of flags that make a filling in the gaps."""
    # All choices are numbered in ascending order and judged at once, each as a case: for ten
    # gaps in integers of 1024 bits.
    many = 1 << len(gaps)
    cases = [cases_with(at, len(gaps)) for at in range(len(gaps))]
    kept = Judge(schema, filled_with(schema, rows, gaps, cases), many).cases_kept(book)
    return [
        [_flag(number, at, len(gaps)) for at in range(len(gaps))] for number in range(many) if kept >> number & 1
    ]


def cases_with(at, many_gaps):
    """Return the integer that has a bit for each choice in which the flag in a gap is True."""
    return sum([1 << number for number in range(1 << many_gaps) if _flag(number, at, many_gaps)])


def _flag(number, at, many_gaps):
    """Return the flag in a gap in the choice with a number: the first gap is its highest bit."""
    return number >> (many_gaps - 1 - at) & 1 == 1


def _agreed(flags):
    """Return what all of some flags are, or None if they differ."""
    if all(flags):
        return True
    return None if any(flags) else False
