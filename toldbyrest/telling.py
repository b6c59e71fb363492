"""Conditions without lacking flags that tell a lacking flag."""

from toldbyrest.bits import numbers_of
from toldbyrest.choices import told_apart
from toldbyrest.conditions import check_condition, flags_in
from toldbyrest.follows import kinds_beside
from toldbyrest.left import by_kept_flags, left_of
from toldbyrest.pairs import pairs_for
from toldbyrest.questions import Questions
from toldbyrest.told import check_place, rounds_for


def is_telling(schema, book, lacking, table, flag, condition):
    """Return whether a condition without lacking flags is met by just the rows that have a flag, in all data."""
    check_place(schema, book, lacking, table, flag)
    check_condition(schema, table, condition)
    if any([place in lacking for place in flags_in(table, condition)]):
        return False
    kinds = kinds_beside(schema, book, [(table, condition)])
    return not left_of(kinds)[table] & (kinds.bits_meeting(table, condition) ^ kinds.with_flag[(table, flag)])


def telling(schema, book, lacking, table, flag):
    """Return a condition that tells a flag, or None if there is none or more than one round is needed."""
    check_place(schema, book, lacking, table, flag)
    all_pairs = pairs_for(schema, book, lacking)
    if rounds_for(all_pairs, (table, flag)) not in (0, 1):
        return None
    return _telling(all_pairs.kinds, lacking, table, flag)


def _telling(kinds, lacking, table, flag):
    by_kept = by_kept_flags(kinds, left_of(kinds), lacking, table)
    with_flag = kinds.with_flag[(table, flag)]
    questions = Questions(kinds, lacking, table)
    for bits in by_kept.values():
        for one in numbers_of(bits & with_flag):
            for other in numbers_of(bits & ~with_flag):
                questions.tell_apart(one, other)
    met = _cases(questions, by_kept, with_flag)
    unmet = _cases(questions, by_kept, ~with_flag)
    kept = [("flag", name) for name in kinds.schema.flags(table) if (table, name) not in lacking]
    return told_apart(kept + questions.conditions(), met, unmet)


def _cases(questions, by_kept, bits):
    """Return what rows that are among some views may be: their kept flags, and what they are answered."""
    return [
        kept + answers
        for kept in by_kept for view in numbers_of(by_kept[kept] & bits) for answers in questions.answers(view)
    ]
